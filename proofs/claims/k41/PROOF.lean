import PyProof.Rows.All
import Wide.All
import OpenK.AllK
import Wide.FinOn
import PyProof.EqAt
import PyProof.EqKinds
import PyProof.TupleCall
import KE.KEqDict
import KE.KDictSum
import KE.KSortKey
import PyProof.Rows.TupDisplay
import PyProof.DictCompW
import PyProof.WalksMore
import PyProof.MinMaxWalk
import PyProof.DictDisplay
import PyProof.DictWalks
import Lean
import PySem.Challenge.RW_ablehands_k41_deeds_of_a_dealing_refused
open List renaming getElem?_eq_some_iff -> Qa,getElem?_eq_getElem -> Qb,length_map -> Qd,mem_of_getElem? -> Qe,length_append -> Qg,getElem?_map -> Qi,mem_cons_of_mem -> Qk,mem_cons -> Ql,size_toArray -> Qm,getElem?_append_left -> Qn,mem_cons_self -> Qp,getElem?_append_right -> Qr,not_mem_nil -> Qt,mem_iff_getElem? -> Qv,map_append -> Qw,mem_singleton -> Qx,map_cons -> Qz,mem_append_right -> Jb,nodup_iff_pairwise_ne -> Jd,getElem?_zip_eq_some -> Je,length_eraseIdx -> Jf,mem_append -> Jg,length_take -> Ji,length_replicate -> Jj,nodup_cons -> Jk,take_of_length_le -> Jn,length_cons -> Jo,lookup_cons -> Jp,take_length -> Jr,mem_append_left -> Js,getElem?_eq_none -> Ju,all_eq_true -> Jv,take_succ -> Jw,filterMap_cons -> Jx,pairwise_cons -> Xa,take_succ_eq_append_getElem -> Xb,replicate_succ -> Xc,getElem?_set -> Xd,count_cons -> Xf,any_eq_true -> Xg,getElem?_replicate -> Xh,nodup_append -> Xj,mem_filter -> Xk,getD_eq_getElem?_getD -> Xm,length_zip -> Xr,mem_of_mem_eraseIdx -> Xs,map_nil -> Xt,mem_map -> Xu,map_map -> Xv,eraseIdx_cons_succ -> Xw,length_drop -> Xy,getElem?_set_self -> Xz,find?_cons -> Zb,length_filter_le -> Zd,flatten_cons -> Ze,pairwise_append -> Zf,mem_range -> Zg,getElem_inj -> Zh,length_set -> Zk,forIn_cons -> Zl,length_eq_zero_iff -> Zn,mem_replicate -> Zq,reverse_cons -> Zr,forIn_nil -> Zs,take_append_drop -> Zv,mem_eraseIdx_iff_getElem? -> Zw,filter_cons -> Zy,getElem?_set_ne -> Zz,replicate_succ' -> Ya,any_cons -> Yb,of_mem_zip -> Yd,length_reverse -> Ye,idxOf_lt_length_of_mem -> Yf,contains_cons -> Yh,any_map -> Yi,filter_append -> Yj,count_eq_zero -> Yl,take_zero -> Ym,drop_eq_getElem_cons -> Yn,getElem?_eq_none_iff -> Yo,getElem?_inj -> Ys,count_append -> Yt,ext_getElem? -> Yu,foldl_append -> Yv,pairwise_singleton -> Yw,length_eraseIdx_le -> Yx,getElem_mem -> Yy,map_reverse -> Yz,drop_of_length_le -> Wa,length_pos_of_mem -> Wc,append_nil -> We,nil_append -> Wf,eraseIdx_sublist -> Wh,getElem?_of_mem -> Wi,drop_zero -> Wj,nodup_nil -> Wk,length -> Wl,toList_toArray -> Wm,mem_filterMap -> Wp,filterMap_map -> Wq,all_map -> Wt
open PySem.Heap renaming get?_push_of_some -> Qc,get?_push_size -> Qj,lt_size -> Qo,size_push -> Jm,get?_update_other -> Jq,get?_update_self -> Za
open Nat renaming le_refl -> Qh,lt_of_lt_of_le -> Qq,ne_of_lt -> Qy,le_trans -> Ja,le_of_lt -> Jh,lt_irrefl -> Jl,zero_le -> Jt,sub_self -> Jy,lt_succ_of_lt -> Xi,lt_succ_self -> Xn,le_add_right -> Xo,lt_of_le_of_lt -> Xp,le_succ_of_le -> Xq,ne_of_gt -> Zj,le_of_eq -> Zt,min_self -> Zu,succ_le_succ -> Zx,le_succ -> Yc,lt_trans -> Yg,eq_zero_or_pos -> Yk
open Option renaming map_eq_some_iff -> Qs,map_some -> Xe,isSome_iff_exists -> Yp,isSome_map -> Yr,isSome_some -> Wr,getD_none -> Wv
open Bool renaming false_ne_true -> Qu,and_eq_true -> Jc,eq_iff_iff -> Xl,true_and -> Xx,false_eq_true -> Zm,or_eq_true -> Wg
open Int renaming ne_of_lt -> Jz,le_refl -> Zi,emod_nonneg -> Zo,emod_lt_of_pos -> Zp,toNat_natCast -> Yq,toNat_of_nonneg -> Wo,ediv_one -> Ws,zero_add -> Wu
open PySem renaming wpAny_bind -> Ra,wpAny_pure -> Rc,sizeLine_eq -> Rf,wpAny_mono -> Rj,wpAny_field -> Rk,wpAny_callSpecial?_slot -> Rn,wpAny_newObj_type -> Rq,wpAny_loadPart_at -> Rt,wpAny_holding -> Rx,wpAny_setField_rec -> Ry,wpAny_call_entry -> Rz,wpAny_truthy_bool -> Td,wpAny_seqItems -> Tf,wpAny_Call_Name_kw -> To,wpAny_execs_nil -> Tr,wpAny_passesOwn -> Tt,wpAny_loadPart' -> Tu,mem_of_lookup -> Tv,wpAny_letGo -> Uj,wpAny_pyIter_list -> Uk,wpAny_tryCatch -> Um,wpAny_execs_cons -> Up,call_meets -> Uq,wpAny_pyIter_zip -> Ur,evalPart_none -> Us,codeAny_mono -> Uv,tupleKind_room_in1 -> Ux,wpAny_standAt -> Va,wpAny_call -> Vg,wpAny_typeOf -> Vh,codeAny_builtin -> Vk,wpAny_updateSeq_pair -> Vo,codeAny_call_builtin -> Vp,wpAny_onRaise -> Vx,wpAny_attempt -> Vy,plainId_quiet -> Vz,wpAny_Name -> Ic,wpAny_pyIter_tuple -> Ie,wpAny_rule -> Ih,wpAny_sequenceKey -> Il,noFill_tuple_add -> Ir,wpAny_updateSeq -> Me,wpAny_Expr_any -> Mf,wpAny_newTuple -> Mg,seq_tuple_add -> Mj,evalPart_some -> Mm,wpAny_getItem_list_slice -> Mn,call -> Mq,concat_meets -> Mr,seqIndex_neg -> Ms,callType_new -> Mu,wpAny_isTrue_Compare1 -> Mw,wpAny_loadName_local -> My,wpAny_Slice -> Mz,seqIndex_of -> Raa,wpAny_newFunctionEnv -> Rab,wpAny_loadName_free -> Rac,typeIs_int -> Rad,wpAny_assign_Name -> Rae,wpAny_pyIter_dict -> Raf,wpAny_pyIter_enum -> Rag,wpAny_isInstance -> Rah,lookupAlong_cons -> Rai
open PySem.W renaming Frag -> Rb,nsIn -> Rg,mg_none_of -> Ri,findIn -> Rm,hideAll_none -> Ru,mg_of -> Rv,hideAll -> Rw,tabObj -> Ta,keepIn -> Tc,emptyDict -> Te,fnOf -> Tg,instObj -> Tj,of_hideAll -> Tw,callWith_K -> Tx,codeIn -> Uc,kla_fn -> Ue,plainGet -> Uh,codeHdIn -> Ui,hasDictIn -> Ut,isFn -> Uy,lookIn -> Vb,CodeHd -> Vc,hideAll_get -> Vd,plainGet_of -> Ve,codeHd_of_K -> Vf,methodObj -> Vm,plainOver -> Vn,takerIn -> Vs,makesIn -> Vt,OpenLaw -> Vu,cellsFrom_some -> Iu,methodCall_KW -> Iw,km_tabs_of -> Mi,handedIn -> Mp,keq_at -> Mv,WalkO -> Mx
open PySem.F renaming plainAttrs_list -> Rh,slot_list_append -> Ro,type_list_append -> Rp,slot_zip_next -> Tb,slot_dict_values -> Th,plainAttrs_dict -> Ti,slot_tuple_iterator_next -> Tn,type_dict_values -> Tq,slot_enumerate_next -> Ts,args_zip_next_1 -> Ua,slot_list_index -> Ub,entry_zip_next -> Ud,typeOf_object_class -> Uo,args_tuple_add_2 -> Uu,entry_tuple_add -> Uw,slot_tuple_add -> Uz,args_tuple_iterator_next_1 -> Vj,entry_tuple_iterator_next -> Vl,args_enumerate_next_1 -> Vq,entry_enumerate_next -> Vv,args_object_init_3 -> Ii,args_object_init_2 -> Ij,args_list_index_2 -> Ik,slot_tuple_count -> Im,entry_list_index -> Io,slot_list_count -> Ip,type_list_index -> Iq,typeCall_zip_2 -> Iv,newCall_zip_2 -> Iy,entry_zip_new -> Iz,slot_dict_pop -> Ma,slot_list_pop -> Mb,type_list_pop -> Mc,called_zip -> Mh
open PySem.SeqAt renaming eqv_refl -> Ug
open PyProof.Rows renaming subscriptTail_builtinR -> Ul,Subscript_ -> Vi,entry_tuple_getitem -> Vr,args_tuple_getitem -> Ig,tupleItemsOf_ -> Ml
open PySem.EqMixed renaming eq_bool_str -> Raj,eq_int_str -> Rak,eq_str_bool -> Ral,eq_str_int -> Ram,ne_bool_str -> Ran,ne_int_str -> Rao,ne_str_bool -> Rap,ne_str_int -> Raq
open PySem.W.Looks renaming here -> Rar
open PySem.EqNone renaming eq_none_none -> Ras,eq_none_bool -> Rau,eq_none_int -> Rav,eq_none_str -> Rax,eq_bool_none -> Ray,eq_int_none -> Raz,eq_str_none -> RaA,ne_none_none -> RaB,ne_none_bool -> RaC,ne_none_int -> RaD,ne_none_str -> RaE,ne_bool_none -> RaF,ne_int_none -> RaG,ne_str_none -> RaH
open PySem.Within renaming cons -> RaI
open PySem
variable {XP:(Str->Option Value)->Heap->Prop} {it t f c p C dx sl i2 l1 l2 C' fW fH fK fB uz fD uy fL fS CO fR CK Pt fC z_ zz fA Pl fI cE fO dp fT:Addr} {params:Arguments} {A:Around} {qx:Array (Option Value)} {items:Array Value} {L f1:Bool} {op:CmpOp} {e tg iter value elt kx vx:Expr} {fd DW dW dH dB u4 dD u3 dL CV dR CS dC Ad Ac dS dA dO dT:FuncData} {h h' base:Heap} {lo:Int} {lv:Int->Int} {aa:List (Addr×Obj)} {ws:List (List Int)} {ss:List (Nat×Int×Int)} {cl:List (Str×Addr)} {kw:List (Str×Value)} {ch fp:List Addr} {outer:List Env} {es ifs:List Expr} {l ns hs nums:List Int} {fr:List Nat} {ds:List PyData} {body:List Stmt} {N ps loose own bo:List Str} {us ag bm:List Value} {M:Model} {t' i j n m ep n2 x1:Nat} {kh gv:Nat->Heap->Prop} {P1 P2:Nat->Value->Prop} {o ob:Obj} {an od:Option Addr} {hi:Option Int} {z:Option Str} {os:OsState} {pos pos' BB apos p2 c_ p1 p3:Pos} {P prog p':Program} {B:Prop} {d:PyData} {K:Rb} {R:Result->Shared->Prop} {sc scope:Scope} {pl:Sem Bool} {s s':Shared} {st:Stmt} {name qual q vn xn:Str} {kindOf:Str->Option NameKind} {mA mg:Str->Option Value} {T:String} {κ α β:Type} {u doc pm bg ct oc vl vu f0:Value} {E Q:Value->Shared->Prop} {w w':World} {YP:World->Heap->Prop}
namespace PySem.W.Fast
def tw8638825563380087028:=0
def tw2993341735442391321:=0
def tw8090178113022181082:=0
def tw15637801890200822385:=0
def tw791068427471032920:=0
def tw16783854739343761044:=0
def tw14824764183916563452:=0
def tw2887389972398206927:=0
def tw17442438366211564862:=0
def tw18278416699260494272:=0
def tw12440996156155168739:=0
def tw14421480331502730249:=0
def tw12960601371389111795:=0
def tw3685598098566868762:=0
def tw11623591169987633481:=0
def tw17882534976433327586:=0
def tw3733436353315675988:=0
def tw12859014975510001091:=0
def tw6939118145126763074:=0
def tw16125235835606088719:=0
def tw9587879048301863833:=0
def tw3275918807923798513:=0
def tw6478584291394280107:=0
def tw12925462861486880102:=0
def tw6226401622266064831:=0
def tw17493872990131363069:=0
def tw10108719008539832942:=0
def tw8115620121898349171:=0
def tw15377682357659014293:=0
def tw17358025557608252079:=0
def tw9535866330434269142:=0
def tw8866265279972109640:=0
def tw8269785773577137728:=0
def tw7681340368284810308:=0
def tw2052420269129390321:=0
def tw10095698785647716914:=0
def tw17713257229841410172:=0
def tw10209021031816314254:=0
def tw15151783300625243978:=0
def tw12100021751281069637:=0
def tw3398839353688471369:=0
def tw4629262404418418300:=0
def tw1127842946778508384:=0
def tw2614417236445194640:=0
def tw17753019443209103529:=0
def tw14890547175504349775:=0
def tw2251851335987108782:=0
def tw1807966686171707031:=0
def tw5894718572999481978:=0
def tw7765557918587292194:=0
def tw6562780354412967206:=0
def tw10898226561277247210:=0
def tw5654136728605045708:=0
def tw16724254215556685366:=0
def tw4569701791152007509:=0
def tw3170529576746358558:=0
def tw3628359711342503558:=0
def tw10741969699458026116:=0
def tw1611034609770768255:=0
def tw5576590660499934347:=0
def tw636535669473037712:=0
def tw10436206080533439623:=0
def tw14552964661831128353:=0
def tw16275483142272553522:=0
def tw8878833313928436039:=0
def tw11194167922596609968:=0
def tw7237510021839991009:=0
def tw14486588042543020771:=0
def tw6956888192866093526:=0
def tw4419655960007408947:=0
def tw12612272626827509168:=0
def tw5496797505426448880:=0
def tw12615507745118204236:=0
def tw11832237549101912413:=0
def tw5563537684485754276:=0
def tw6156388469498527856:=0
def tw14696096609549982600:=0
def tw10431718711674183640:=0
def tw5589104620547841420:=0
def tw4134896769149807350:=0
def tw14967182166519963307:=0
def tw3841344940152786099:=0
def tw15315191213744476418:=0
def tw11019032189984099202:=0
def tw3781158941720401063:=0
def tw16032830542611371913:=0
def tw1803137693545048331:=0
def tw16312773733820409779:=0
def tw15019559114415429424:=0
def tw9565141781216854330:=0
def tw2395496006761988949:=0
def tw13398141370787266457:=0
def tw2530678885862012380:=0
def tw2334849298385979:=0
def tw10963357184746298771:=0
def tw11754403605956558645:=0
def tw17365832394026807558:=0
def tw16289629703855180113:=0
def tw16963626588560937531:=0
def tw6738555729112154278:=0
def tw12703215160215224187:=0
def tw14612337916324696351:=0
def tw8034402810371497900:=0
def tw16800808569000171659:=0
def tw10958016355927532781:=0
def tw2660638377490222598:=0
def tw4626954688440350559:=0
def tw18263887309413906378:=0
def tw2986399631971739598:=0
def tw1779546942771540964:=0
def tw4139088806386418976:=0
def tw10635030045866018399:=0
def tw1424593681534489084:=0
def tw1489753559595973962:=0
def tw10924912177788432366:=0
def tw9418665836923542671:=0
def tw5271649298915708745:=0
def tw6822418513578239324:=0
def tw5802857117122141985:=0
def tw9927252286658504781:=0
def tw6962154326450971893:=0
def tw17503351976092464937:=0
def tw16797171642870287046:=0
def tw8213297144354541297:=0
def tw4123652868513158817:=0
def tw8806354816780161523:=0
def tw12637266013746900491:=0
def tw7999506855686852848:=0
def tw14215113401598824055:=0
def tw15917695044174132552:=0
def tw9071499841166519772:=0
def tw14539902681736747533:=0
def tw960813535924380208:=0
def tw14999088242968003326:=0
def tw7151870092854692491:=0
def tw4663265337113898297:=0
def tw15405128825919929669:=0
def tw7567144763511052848:=0
def tw17387903027192119486:=0
def tw15014636251382747389:=0
def tw977544222193110899:=0
def tw109201139107952542:=0
def tw15904341475960311025:=0
def tw13460511391538097450:=0
def tw7015556731499586564:=0
def tw15839416964569032762:=0
def tw13273784622925189261:=0
def tw6247708900384502359:=0
def tw11235120727482127079:=0
def tw8197904292837476166:=0
def tw14118906434033324570:=0
def tw7767545457037461223:=0
def tw14231671019667560013:=0
def tw14738537885171559116:=0
def tw15893452124324702420:=0
def tw7034415157056667361:=0
def tw13814625015727784443:=0
def tw10230258642866429148:=0
def tw7247962306291762284:=0
def tw12900898290817742298:=0
def tw1231233394686325156:=0
def tw5764498380534334039:=0
def tw12240842262418737082:=0
def tw8629698209703481977:=0
def tw8460663521279700708:=0
def tw14883561564165326576:=0
def tw2340789323469651629:=0
def tw8344646830489556644:=0
def tw11161791719530773216:=0
def tw14549856830132263753:=0
def tw18179163708986645140:=0
def tw14043490264969080895:=0
def tw12204664790029856598:=0
def tw12926364238110450901:=0
def tw1615899553453874812:=0
def tw10535507954047910446:=0
def tw2342864392922875065:=0
def tw15421152714899501057:=0
def tw11553039633138871087:=0
def tw5411946396388963591:=0
def tw11279149394325589225:=0
def tw10272776456627832870:=0
def tw6764608396691761054:=0
def tw1258010025457741893:=0
def tw7585402919074014576:=0
def tw13283988519775234778:=0
def tw4434068981364190772:=0
def tw17240399503547842868:=0
def tw6323189587301504094:=0
def tw6006105005197846479:=0
def tw3525531630785810051:=0
def tw5501992714943389256:=0
def tw803049692009514072:=0
def tw1959080143046475836:=0
def tw423350921188062940:=0
def tw2826414310137360365:=0
def tw4855410815595855747:=0
def tw17030230602668765642:=0
def tw15331287233380409482:=0
def tw11368727890383326628:=0
def tw14740679605343586339:=0
def tw3085113090321874494:=0
def tw22897874013325388:=0
def tw4490689935252429353:=0
def tw17530678317558489261:=0
def tw12770949460909072074:=0
def tw7663945461287358523:=0
def tw1406830600838471251:=0
def tw881675383484700496:=0
def tw15413086867778039890:=0
def tw13346781461755753593:=0
def tw7959026303275839737:=0
def tw16408774418088778183:=0
def tw816009069298176258:=0
def tw1637385987321532539:=0
def tw3275718145302547689:=0
def tw15806875325263984142:=0
def tw16522136748723593176:=0
def tw18172977912938979241:=0
def tw17143481779465502685:=0
def tw11629567052669181834:=0
def tw12121310693792088846:=0
def tw4969623026621108229:=0
def tw1945917511054563083:=0
def tw12901019994801550185:=0
end PySem.W.Fast
set_option Elab.async false
set_option linter.all false
set_option maxRecDepth 100000
namespace L2
open PySem PySem.Spec PyProof.Rows
abbrev Key:=Sum Int Str
def rX:Key->Value->Bool
 | .inl k,v=>Value.isInt k v
 | .inr x,v=>Value.isStrOf x v
def K5 (w:World):Key->Int
 | .inl k=>hashInt k
 | .inr x=>hashStr w x
theorem dQ:∀ {k:Key} {v:Value},rX k v=true->(∃ i t,k=Sum.inl i/\v=Value.int i t)∨(∃ x t,k=Sum.inr x/\v=Value.str x t)
 | .inl i,v,h=>by
  obtain ⟨t,e⟩:=Value.isInt_shape (k:=i) (v:=v) h
  exact .inl ⟨i,t,rfl,e⟩
 | .inr x,v,h=>by
  obtain ⟨t,e⟩:=Value.isStrOf_shape (x:=x) (v:=v) h
  exact .inr ⟨x,t,rfl,e⟩
theorem aCB (i:Int) (t:Tok):rX (.inl i) (.int i t)=true:=by simp [rX,Value.isInt]
theorem aCC (x:Str) (t:Tok):rX (.inr x) (.str x t)=true:=by simp [rX,Value.isStrOf]
theorem aGD (a b:Int):decide ((Sum.inl a:Key)=Sum.inl b)=(a==b):=by
 by_cases e:a=b
 ·subst e; simp
 ·have h:¬ (Sum.inl a:Key)=Sum.inl b:=λq=>e (Sum.inl.inj q)
  rw [decide_eq_false h]
  exact (beq_eq_false_iff_ne.mpr e).symm
theorem aGE (a b:Str):decide ((Sum.inr a:Key)=Sum.inr b)=decide (a=b):=by
 by_cases e:a=b
 ·subst e; simp
 ·have h:¬ (Sum.inr a:Key)=Sum.inr b:=λq=>e (Sum.inr.inj q)
  rw [decide_eq_false h,decide_eq_false e]
theorem aGF (a:Int) (b:Str):decide ((Sum.inl a:Key)=Sum.inr b)=false:=decide_eq_false (λq=>nomatch q)
theorem aGG (a:Str) (b:Int):decide ((Sum.inr a:Key)=Sum.inl b)=false:=decide_eq_false (λq=>nomatch q)
def bF (prog:Program) (w:World):PySem.KeyKind prog w Key where
 is:=rX
 hash:=K5 w
 inj:=λv a b ha hb=>by
  rcases dQ ha with ⟨i,t,rfl,rfl⟩ | ⟨x,t,rfl,rfl⟩
  ·rcases dQ hb with ⟨j,u,rfl,e⟩ | ⟨y,u,rfl,e⟩
   ·injection e with e1 _; rw [e1]
   ·exact nomatch e
  ·rcases dQ hb with ⟨j,u,rfl,e⟩ | ⟨y,u,rfl,e⟩
   ·exact nomatch e
   ·injection e with e1 _; rw [e1]
 byValue:=λk v h=>by
  rcases dQ h with ⟨i,t,rfl,rfl⟩ | ⟨x,t,rfl,rfl⟩ <;> rfl
 pyHash:=λhv h=>by
  rcases dQ hv with ⟨i,t,rfl,rfl⟩ | ⟨x,t,rfl,rfl⟩
  ·exact wpAny_pyHash_int h
  ·exact wpAny_pyHash_str h
 eqBool:=λhu hv h=>by
  rcases dQ hu with ⟨i,t,rfl,rfl⟩ | ⟨x,t,rfl,rfl⟩
  ·rcases dQ hv with ⟨j,u,rfl,rfl⟩ | ⟨y,u,rfl,rfl⟩
   ·rw [aGD] at h; exact wpAny_eqBool_int h
   ·rw [aGF] at h; exact SeqAt.EqAt.int_str i t y u _ _ _ _ h
  ·rcases dQ hv with ⟨j,u,rfl,rfl⟩ | ⟨y,u,rfl,rfl⟩
   ·rw [aGG] at h; exact SeqAt.EqAt.str_int x t j u _ _ _ _ h
   ·rw [aGE] at h; exact wpAny_eqBool_str h
 «strs»:=λk x t v h=>by
  rcases dQ h with ⟨i,u,rfl,e⟩ | ⟨y,u,rfl,e⟩
  ·exact nomatch e
  ·injection e with e1 _
   subst e1
   cases v <;> rfl
theorem zW (prog:Program) (w:World) (i:Int) (t:Tok):(bF prog w).is (.inl i) (.int i t)=true:=aCB i t
theorem zX (prog:Program) (w:World) (x:Str) (t:Tok):(bF prog w).is (.inr x) (.str x t)=true:=aCC x t
inductive V where
 | br | bl (b:Bool) | int (i:Int) | str (x:Str) | o7 (b:Array UInt8) | wx (b:UInt64) | ref (a:Addr) | ty (n:String)
 deriving DecidableEq
end L2
open L2
variable {kvs:List (Key×V)} {xs ys vs fk:List V} {v y:V}
namespace L2
open PySem PySem.Spec PyProof.Rows
def bQ:V->Value->Prop
 | .br,u=>u=Value.none
 | .bl b,u=>u=Value.bool b
 | .int i,u=>∃ t,u=Value.int i t
 | .str x,u=>∃ t,u=Value.str x t
 | .o7 b,u=>∃ t,u=Value.bytes b t
 | .wx b,u=>∃ t,u=Value.float b t
 | .ref a,u=>u=Value.ref a
 | .ty n,u=>u=Value.type n
abbrev bH:List V->List Value->Prop:=Paired bQ
theorem bH.length (r:bH xs us):xs.length=us.length:=Paired.length r
theorem bH.get:∀ {xs:List V} {us:List Value} {i:Nat} {x:V},bH xs us->xs[i]?=some x->∃ u,us[i]?=some u/\bQ x u
 | _,_,_,_,.nil,e=>by simp at e
 | _,_,0,_,.cons r _,e=>by simp at e; subst e; exact ⟨_,rfl,r⟩
 | _,_,i+1,x,.cons _ t,e=>by
  obtain ⟨u,h1,h2⟩:=bH.get (i:=i) (x:=x) t (by simpa using e)
  exact ⟨u,by simpa using h1,h2⟩
theorem bH.set {x:V} (r:bQ x u):∀ {xs:List V} {us:List Value} (i:Nat),bH xs us->bH (xs.set i x) (us.set i u)
 | _,_,_,.nil=>.nil
 | _,_,0,.cons _ t=>.cons r t
 | _,_,i+1,.cons q t=>.cons q (bH.set r i t)
theorem bH.append:∀ {xs ys:List V} {us ws:List Value},bH xs us->bH ys ws->bH (xs++ys) (us++ws)
 := by
 intro xs ys us ws h s
 induction h with
 | nil=>exact s
 | cons r t ih=>exact .cons r ih
theorem bH.take:∀ {xs:List V} {us:List Value} (n:Nat),bH xs us->bH (xs.take n) (us.take n)
 | _,_,0,_=>.nil
 | _,_,_+1,.nil=>.nil
 | _,_,n+1,.cons r t=>.cons r (bH.take n t)
theorem bH.drop:∀ {xs:List V} {us:List Value} (n:Nat),bH xs us->bH (xs.drop n) (us.drop n)
 | _,_,0,r=>r
 | _,_,_+1,.nil=>.nil
 | _,_,n+1,.cons _ t=>bH.drop n t
def mI:Option V->Option Value->Prop
 | some v,some u=>bQ v u
 | none,none=>True
 | _,_=>False
def KV:List (κ×V)->List (κ×Value)->Prop:=Paired λ(p:κ×V) (q:κ×Value)=>p.1=q.1/\bQ p.2 q.2
def kV:Key->V
 | .inl i=>.int i
 | .inr x=>.str x
inductive HO where
 | lst (xs:List V)
 | tup (xs:List V)
 | dK (kvs:List (Key×V)) | dT (kvs:List (List Key×V))
 | set (S:Int->Bool) (n:Nat)
 | ins (C dx:Addr) (fs:List (Str×V))
 | own (x:Addr)
 | xd (fs:List (Str×V))
 | met (f x:Addr)
 | sv (lo hi:Int)
 | bq (o:Obj) (u:HO)
 | zb (ps:Array Value)
 | tab (q:Str)
 | ext (φ:Heap->Prop)
abbrev Hp:=Addr->Option HO
end L2
variable {H H' H1 H2 H0:Hp} {Qf:Hp->List V->Prop}
namespace L2
open PySem PySem.Spec PyProof.Rows
def upd (H:Hp) (a:Addr) (o:HO):Hp:=λb=>if b=a then some o else H b
theorem aB {a:Addr} {o:HO}:upd H a o a=some o:=by unfold upd; rw [if_pos rfl]
theorem aF {a b:Addr} {o:HO} (h:b≠a):upd H a o b=H b:=by unfold upd; rw [if_neg h]
theorem kG {a:Addr} {o u:HO}:upd (upd H a o) a u=upd H a u:=by
 funext b; unfold upd; split <;> rfl
theorem aHu {a b:Addr} {o u:HO} (h:H a=some o) (h':H b=some u) (d:o≠u):a≠b:=by
 intro e; subst e; rw [h] at h'; exact d (Option.some.inj h')
theorem iN {a b:Addr} {o:HO} (h:H a=some o) (h':H b=none):a≠b:=by
 intro e; subst e; rw [h] at h'; cases h'
section
variable (P:Program) (w:World)
def bR (H:Hp) (h:Heap) (a:Addr):HO->Prop
 | .lst xs=>xs.length<=sizeLine/\∃ (ag:List Value) (n:Nat),bH xs ag/\h.get? a=some { cls:=.type "list",data:=.seq ag.toArray n }
 | .tup xs=>xs.length<=sizeLine/\∃ (ag:List Value) (n:Nat),bH xs ag/\h.get? a=some { cls:=.type "tuple",data:=.seq ag.toArray n }
 | .dK kvs=>kvs.length<=sizeLine/\(a==sysModules)=false/\∃ vs,KV kvs vs/\h.DictOf (bF P w) a vs
 | .dT kvs => kvs.length <= sizeLine /\ (a == sysModules) = false /\ ∃ xs : List (List Key × Addr × Value),
     Paired (λ(p:List Key×V) (q:List Key×Addr×Value)=>p.1=q.1/\H q.2.1=some (.tup (p.1.map kV))/\bQ p.2 q.2.2) kvs xs /\
     ∃ o es ep,h.get? a=some o/\o.ExactDict/\o.data=.dict es ep/\es.toList=xs.map (entryOfKey (tupleKind (bF P w)))/\(xs.map (·.1)).Nodup
 | .set S n=>h.SetOf (intKind P w) a S n
 | .ins C dx fs => H dx = some (.own a) /\ fs.length <= 1000 /\ dx ≠ a /\ h.get? a = some (Tj C dx) /\
     ∃ mA,h.Ns1 dx mA/\(∀ f,mI (fs.lookup f) (mA f))/\PySem.Within mA (fs.map (·.1))
 | .own _=>∃ o,h.get? a=some o
 | .xd fs=>∃ mA,h.Ns1 a mA/\∀ f,mI (fs.lookup f) (mA f)
 | .sv lo hi=>∃ t u v,h.get? a=some { cls:=.type "range",data:=.fields #[.int lo t,.int hi u,.int 1 v] }
 | .bq o u=>h.get? a=some o/\bR H h a u
 | .zb ps=>h.get? a=some { cls:=.none,data:=.fields ps }
 | .tab q=>∃ ps:Array Value,h.get? a=some { cls:=.none,data:=.fields ps }/\TriplesOk ps.toList/\∀ (pos:Pos) (cv:Value),codeAmong pos ps.toList=some cv->∃ (c:Addr) (o:Obj) (vs:Array Value) (t:Tok),cv=.ref c/\H c=some (.own a)/\h.get? c=some o/\o.data=.fields vs/\vs[1]?=some (.str q t)
 | .met f x=>h.get? a=some (Vm (.ref f) (.ref x))
 | .ext φ=>φ h/\(∃ o,h.get? a=some o)/\∀ h1 h2:Heap,φ h1->(∀ o,h1.get? a=some o->h2.get? a=some o)->φ h2
def gi (H:Hp) (h:Heap):Prop:=∀ a o,H a=some o->bR P w H h a o
end
section
variable {a:Addr} {o:HO}
theorem bR.lt (x:bR P w H h a o):a < h.objs.size:=by
 cases o with
 | lst xs=>obtain ⟨_,_,_,_,e⟩:=x; exact Qo e
 | tup xs=>obtain ⟨_,_,_,_,e⟩:=x; exact Qo e
 | dK kvs=>obtain ⟨_,_,_,_,o,_,_,e,_⟩:=x; exact Qo e
 | dT kvs=>obtain ⟨_,_,_,_,o,_,_,e,_⟩:=x; exact Qo e
 | set S n=>obtain ⟨o,_,_,_,e,_⟩:=x; exact Qo e
 | ins C dx fs=>obtain ⟨_,_,_,e,_⟩:=x; exact Qo e
 | own y=>obtain ⟨_,e⟩:=x; exact Qo e
 | xd fs=>obtain ⟨_,⟨_,_,_,e,_⟩,_⟩:=x; exact Qo e
 | sv lo hi=>obtain ⟨_,_,_,e⟩:=x; exact Qo e
 | bq ob u=>obtain ⟨e,_⟩:=x; exact Qo e
 | zb ps=>exact Qo (show h.get? a=some _ from x)
 | tab q=>obtain ⟨_,e,_⟩:=x; exact Qo e
 | met f y=>exact Qo (show h.get? a=some _ from x)
 | ext φ=>obtain ⟨_,⟨_,e⟩,_⟩:=x; exact Qo e
theorem Paired.EL {F G:α->β->Prop}:∀ {IP:List α} {IM:List β},Paired F IP IM->(∀ a b,F a b->G a b)->Paired G IP IM
 := by
 intro IP IM h f
 induction h with
 | nil=>exact .nil
 | cons r t ih=>exact .cons (f _ _ r) ih
theorem bR.d_ (x:bR P w H h a o) (k:∀ b u,(b=a∨H b=some (.own a))->h.get? b=some u->h'.get? b=some u)
  (ho:∀ b,H b=some (.own a)->H' b=some (.own a)) (ht:∀ b xs,H b=some (.tup xs)->H' b=some (.tup xs)):bR P w H' h' a o:=by
 induction o with
 | lst xs=>obtain ⟨z,ag,n,r,e⟩:=x; exact ⟨z,ag,n,r,k _ _ (.inl rfl) e⟩
 | tup xs=>obtain ⟨z,ag,n,r,e⟩:=x; exact ⟨z,ag,n,r,k _ _ (.inl rfl) e⟩
 | dK kvs=>obtain ⟨z,y,vs,r,ob,es,ep,e,c⟩:=x; exact ⟨z,y,vs,r,ob,es,ep,k _ _ (.inl rfl) e,c⟩
 | dT kvs =>
  obtain ⟨z,y,xs,r,ob,es,ep,e,c⟩:=x
  exact ⟨z,y,xs,Paired.EL r λp q z=>⟨z.1,ht _ _ z.2.1,z.2.2⟩,ob,es,ep,k _ _ (.inl rfl) e,c⟩
 | set S n=>obtain ⟨ob,es,ep,t,e,c⟩:=x; exact ⟨ob,es,ep,t,k _ _ (.inl rfl) e,c⟩
 | ins C dx fs =>
  obtain ⟨d,z,ne,e,mA,⟨od,es,ep,e2,c⟩,r⟩:=x
  exact ⟨ho _ d,z,ne,k _ _ (.inl rfl) e,mA,⟨od,es,ep,k _ _ (.inr d) e2,c⟩,r⟩
 | own y=>obtain ⟨ob,e⟩:=x; exact ⟨ob,k _ _ (.inl rfl) e⟩
 | xd fs=>obtain ⟨mA,⟨od,es,ep,e,c⟩,r⟩:=x; exact ⟨mA,⟨od,es,ep,k _ _ (.inl rfl) e,c⟩,r⟩
 | sv lo hi=>obtain ⟨t,u,v,e⟩:=x; exact ⟨t,u,v,k _ _ (.inl rfl) e⟩
 | bq ob u ih=>obtain ⟨e,q⟩:=x; exact ⟨k _ _ (.inl rfl) e,ih q⟩
 | zb ps =>
  have e:h.get? a=some { cls:=.none,data:=.fields ps }:=x
  show h'.get? a=some { cls:=.none,data:=.fields ps }
  exact k a _ (.inl rfl) e
 | tab q =>
  obtain ⟨ps,e,z,r⟩:=x
  refine ⟨ps,k _ _ (.inl rfl) e,z,λpos cv q=>?_⟩
  obtain ⟨c,o,vs,t,r1,r2,r3,r4⟩:=r pos cv q
  exact ⟨c,o,vs,t,r1,ho _ r2,k _ _ (.inr r2) r3,r4⟩
 | met f y =>
  have e:h.get? a=some (Vm (.ref f) (.ref y)):=x
  show h'.get? a=some (Vm (.ref f) (.ref y))
  exact k a _ (.inl rfl) e
 | ext φ=>obtain ⟨p,⟨o,e⟩,st⟩:=x; exact ⟨st _ _ p λo q=>k _ _ (.inl rfl) q,⟨o,k _ _ (.inl rfl) e⟩,st⟩
theorem gi.lt (x:gi P w H h) (e:H a=some o):a < h.objs.size:=(x a o e).lt
theorem gi.fresh (x:gi P w H h) (e:h.objs.size<=a):H a=none:=by
 cases q:H a with
 | none=>rfl
 | some u=>exact absurd (Qq (x.lt q) e) (Jl _)
theorem gi.kept (x:gi P w H h) (k:∀ b u,h.get? b=some u->h'.get? b=some u):gi P w H h':=λa o e =>
 (x a o e).d_ (λb u _ q=>k b u q) (λ_ q=>q) λ_ _ q=>q
theorem gi.laid (x:gi P w H h) (k:∀ b u,h.get? b=some u->h'.get? b=some u) (hp:h.objs.size<=a) (new:bR P w (upd H a o) h' a o):gi P w (upd H a o) h':=λb u e=>by
 have hn:=x.fresh hp
 by_cases hb:b=a
 ·subst hb; rw [aB] at e; cases e; exact new
 ·rw [aF hb] at e
  exact (x b u e).d_ (λc v _ q=>k c v q) (λc q=>by rw [aF (iN q hn)]; exact q) λc xs q=>by rw [aF (iN q hn)]; exact q
end
def Rd (H:Hp) (a:Addr) (u:HO):Prop:=H a=some u∨∃ o,H a=some (.bq o u)
theorem Rd.ok {a:Addr} {u:HO} (r:Rd H a u) (x:gi P w H h):bR P w H h a u:=by
 rcases r with r | ⟨o,r⟩
 ·exact x a u r
 ·obtain ⟨_,q⟩:=x a _ r
  exact q
def Bv:Option HO->Prop
 | some (.lst _)=>True
 | some (.dK _)=>True
 | some (.dT _)=>True
 | some (.set _ _)=>True
 | some (.ins _ _ _)=>True
 | some (.ext _)=>True
 | some (.tab _)=>True
 | _=>False
section
variable {x e:Addr} {o':HO}
theorem gi.write (ok:gi P w H h) (mu:Bv (H x)) (he:e=x∨H e=some (.own x)) (k:∀ b u,b≠e->h.get? b=some u->h'.get? b=some u) (CD:∃ u,h'.get? e=some u)
  (new:bR P w (upd H x o') h' x o'):gi P w (upd H x o') h':=λb u q=>by
 have EK:∀ c y,H c=some (.own y)->c≠x:=λc y r z=>by subst z; rw [r] at mu; exact mu
 have MC:∀ c xs,H c=some (.tup xs)->c≠x:=λc xs r z=>by subst z; rw [r] at mu; exact mu
 by_cases hb:b=x
 ·subst hb; rw [aB] at q; cases q; exact new
 ·rw [aF hb] at q
  by_cases Bb:b=e
  ·have q':H b=some (.own x):=by
    rcases he with z | z
    ·exact absurd (Bb.trans z) hb
    ·rw [Bb]; exact z
   rw [q] at q'; cases q'
   obtain ⟨v,hv⟩:=CD
   exact ⟨v,by rw [Bb]; exact hv⟩
  ·refine (ok b u q).d_ (λc v hc r=>k c v ?_ r) (λc r=>by rw [aF (EK c b r)]; exact r) λc xs r=>by rw [aF (MC c xs r)]; exact r
   rcases hc with rfl | hc
   ·exact Bb
   ·rintro rfl
    rcases he with z | z
    ·exact EK c b hc z
    ·rw [hc] at z; cases z; exact hb rfl
end
structure Un (fs ex:List Addr) (H H':Hp) (h h':Heap):Prop where
 keep:∀ b o,h.get? b=some o->H b=none->b∉fs->b∉ex->h'.get? b=some o
 slot:∀ b o,h.get? b=some o->H b=none->b∈fs->b∉ex->∃ sl,h'.get? b=some { o with slots:=sl }
 free:∀ b o,h.get? b=some o->H b=none->b∉ex->H' b=none
 there:∀ b o,h.get? b=some o->b∉ex->∃ o',h'.get? b=some o'
 il:∀ b xs,H b=some (.tup xs)->H' b=some (.tup xs)
 gm:∀ b o u,H b=some (.bq o u)->H' b=some (.bq o u)
 ip:∀ b ps,H b=some (.zb ps)->∃ more,H' b=some (.zb (ps++more))
section
variable {fs CJ ex ex':List Addr} {h1 h2:Heap} {a x e:Addr} {o:HO}
theorem Un.any (u:Un fs ex H H1 h h1) {b:Addr} (q:h.get? b=some ob) (n:H b=none) (hx:b∉ex):∃ sl,h1.get? b=some { ob with slots:=sl }:=by
 by_cases hb:b∈fs
 ·exact u.slot b ob q n hb hx
 ·exact ⟨ob.slots,u.keep b ob q n hb hx⟩
theorem Un.kept (k:∀ b u,h.get? b=some u->h'.get? b=some u):Un fs ex H H h h' :=
 ⟨λb ob q _ _ _=>k b ob q,λb ob q _ _ _=>⟨ob.slots,k b ob q⟩,λ_ _ _ n _=>n,λb ob q _=>⟨ob,k b ob q⟩,λ_ _ q=>q,λ_ _ _ q=>q,λ_ ps q=>⟨#[],by rw [q]; simp⟩⟩
theorem Un.refl:Un fs ex H H h h:=Un.kept λ_ _ q=>q
theorem Un.laid (k:∀ b u,h.get? b=some u->h'.get? b=some u) (hp:h.objs.size<=a) (hn:H a=none):Un fs ex H (upd H a o) h h' where
 keep:=λb u q _ _ _=>k b u q
 slot:=λb u q _ _ _=>⟨u.slots,k b u q⟩
 free:=λb u q n _=>by rw [aF (Qy (Qq (Qo q) hp))]; exact n
 there:=λb u q _=>⟨u,k b u q⟩
 il:=λb xs q=>by rw [aF (iN q hn)]; exact q
 gm:=λb u xs q=>by rw [aF (iN q hn)]; exact q
 ip:=λb ps q=>⟨#[],by rw [aF (iN q hn),q]; simp⟩
theorem Un.write (mu:Bv (H x)) (he:e=x∨H e=some (.own x)) (k:∀ b u,b≠e->h.get? b=some u->h'.get? b=some u) (CD:∃ u,h'.get? e=some u):Un fs ex H (upd H x o) h h':=by
 have hx:∀ b,H b=none->b≠x:=λb n z=>by subst z; rw [n] at mu; exact mu
 have hb:∀ b,H b=none->b≠e:=λb n z=>by
  subst z
  rcases he with r | r
  ·exact hx b n r
  ·rw [n] at r; cases r
 have hm:∀ b u,H b=some u->¬ Bv (some u)->b≠x:=λb u q nm z=>by subst z; rw [q] at mu; exact nm mu
 refine ⟨λb u q n _ _=>k b u (hb b n) q,λb u q n _ _=>⟨u.slots,k b u (hb b n) q⟩,λb u q n _=>by rw [aF (hx b n)]; exact n,λb u q _=>?_,
  λb xs q=>by rw [aF (hm b _ q λz=>z)]; exact q,λb u xs q=>by rw [aF (hm b _ q λz=>z)]; exact q,λb ps q=>⟨#[],by rw [aF (hm b _ q λz=>z),q]; simp⟩⟩
 by_cases Bb:b=e
 ·subst Bb; exact CD
 ·exact ⟨u,k b u Bb q⟩
end
def wa (h:Heap) (H:Hp):List Addr:=(List.range h.objs.size).filter λa=>(H a).isSome
def wA (h:Heap) (H:Hp):Heap:=Rw h (wa h H)
theorem aCD (h:Heap) (H:Hp):(wA h H).objs.size=h.objs.size:=PySem.W.hideAll_size _ _
theorem aDf {b:Addr} (e:h.get? b=some o) (n:H b=none):(wA h H).get? b=some o :=
 Vd _ e λhm=>by
  have q:(H b).isSome=true:=(Xk.mp hm).2
  rw [n] at q; simp at q
theorem aEZ {b:Addr} (e:(wA h H).get? b=some o):h.get? b=some o/\H b=none:=by
 have e':h.get? b=some o:=Tw (wa h H) e
 refine ⟨e',?_⟩
 cases q:H b with
 | none=>rfl
 | some x =>
  have hm:b∈wa h H:=Xk.mpr ⟨Zg.mpr (Qo e'),by simp [q]⟩
  have z:(wA h H).get? b=none:=Ru (wa h H) hm
  rw [z] at e; cases e
def aE0 (g h:Heap) (L:Addr):List (Addr×Obj):=(List.range h.objs.size).filterMap λa=>if a=L∨(g.get? a).isSome=true then none else (h.get? a).map λo=>(a,o)
def bO (g h:Heap) (L d:Addr):List (Addr×Obj):=(aE0 g h L).filter λp=>decide (p.1≠d)
structure Mod (K:Rb) (mg:Str->Option Value) (base:Heap):Prop where
 xr:K.In base
 glob:base.Ns mainGlobals mg
 blt:∃ mb,base.Ns builtinsNs mb/\∀ x:Str,x ≠ "__name__" -> mb x=bootBuiltins x
 nolimit:base.NoLimit
 mods:∃ mm,base.Ns sysModules mm
structure Cx where
 prog:Program
 w:World
 K:Rb
 mg:Str->Option Value
 base:Heap
 A:Around
 N:List Str
 gq:Shared
 t_:Hp
 env:Env
 outer:List Env
 stack:List Env
 ex:List Addr
 fn:Str->Bool
 calm:Bool
 pn:List (Addr×Obj)
 xe:Value->Shared->Prop
end L2
variable {X:Cx}
namespace L2
open PySem PySem.Spec PyProof.Rows
def dj (l:List Env):List Addr:=l.filterMap (·.frame)
abbrev Cx.fs (X:Cx):List Addr:=dj X.outer
def Hc (sc:Scope) (x:Str):Prop:=sc.names.lookup x=some .local∨sc.names.lookup x=some .cell∨sc.names.lookup x=some .free
def Loc (sc:Scope) (x:Str):Prop:=sc.names.lookup x=some .local∨sc.names.lookup x=some .cell
def RU (env:Env) (h:Heap) (m:Str->Option Value) (x:Str) (u:Value):Prop :=
 (env.kindOf x=some .local/\m x=some u)∨((env.kindOf x=some .cell∨env.kindOf x=some .free)/\∃ c,env.cells.lookup x=some c/\h.IsCell c (some u))
structure Cx.Ok (X:Cx):Prop where
 mod:Mod X.K X.mg X.base
 kind:X.env.scope.kind=.function
 glob:X.env.globals=mainGlobals
 blt:X.env.builtins=builtinsNs
 above:X.gq.heap.objs.size<=X.env.locals
 inj:∀ x y c,X.env.cells.lookup x=some c->X.env.cells.lookup y=some c->x=y
 has:∀ x,(X.env.kindOf x=some .cell∨X.env.kindOf x=some .free)->∃ c,X.env.cells.lookup x=some c
 Ae:∀ x c,X.fn x=true->X.env.cells.lookup x=some c->X.gq.heap.objs.size<=c
 hd:X.calm=true->X.A.handled=none
 frames:X.A.frames=some X.stack
 C8:X.stack=X.outer∨(X.stack=X.env::X.outer/\X.env.frame=some X.env.locals)
 D0:∀ b∈X.ex,b≠X.env.locals/\∀ x c,X.env.cells.lookup x=some c->c≠b
 bs:∀ b o,X.base.get? b=some o->X.gq.heap.get? b=some o/\X.t_ b=none
 yl:X.base.objs.size<=X.gq.heap.objs.size
 kn:∀ b o,X.base.get? b=some o->b∉X.ex
 vj:∀ b∈X.ex,b∉X.fs
 iq:X.gq.heap.FunFrames X.base X.outer
 wu:∀ b∈X.fs,X.t_ b=none
structure Inv (X:Cx) (aa:List (Addr×Obj)) (σ:List (Option V)) (H:Hp) (s:Shared):Prop where
 ok:X.Ok
 os:s.os=X.gq.os
 bare:AllBare s.gens
 base:Un X.fs X.ex X.t_ H X.gq.heap s.heap
 loc:∃ m,s.heap.Ns X.env.locals m/\∀ (i:Nat) (x:Str) (v:V),X.N[i]?=some x->σ[i]?=some (some v)->Hc X.env.scope x->∃ u,bQ v u/\RU X.env s.heap m x u
 cell:∀ x c,X.env.cells.lookup x=some c->∃ v,s.heap.IsCell c v
 free:H X.env.locals=none
 cy:∀ x c,X.env.cells.lookup x=some c->H c=none
 pin:∀ p∈X.pn++aa,s.heap.get? p.1=some p.2/\H p.1=none/\p.1≠X.env.locals/\p.1∉X.fs/\∀ v,p.2.data≠.cell v
 ax:gi X.prog X.w H s.heap
 len:σ.length=X.N.length
section
variable {σ:List (Option V)}
theorem Cx.Ok.MH (ok:X.Ok) {b:Addr} (e:X.base.get? b=some o):b∉X.fs:=λhb=>by
 have:=(ok.iq.mem hb).1
 rw [e] at this; cases this
theorem Inv.bs (I:Inv X aa σ H s):∀ b o,X.base.get? b=some o->s.heap.get? b=some o/\H b=none:=λb o e =>
 ⟨I.base.keep b o (I.ok.bs b o e).1 (I.ok.bs b o e).2 (I.ok.MH e) (I.ok.kn b o e),I.base.free b o (I.ok.bs b o e).1 (I.ok.bs b o e).2 (I.ok.kn b o e)⟩
theorem Inv.bk (I:Inv X aa σ H s):∀ b o,X.base.get? b=some o->s.heap.get? b=some o:=λb o e=>(I.bs b o e).1
theorem Inv.mod (I:Inv X aa σ H s):Mod X.K X.mg X.base:=I.ok.mod
theorem Inv.i_ (I:Inv X aa σ H s):X.K.In s.heap:=I.ok.mod.xr.keeps I.bk
theorem Inv.nolimit (I:Inv X aa σ H s):s.heap.NoLimit:=I.ok.mod.nolimit.keeps I.bk
theorem Inv.lt (I:Inv X aa σ H s):X.env.locals < s.heap.objs.size:=let ⟨_,hn,_⟩:=I.loc; hn.lt
theorem Inv.sz (I:Inv X aa σ H s):X.gq.heap.objs.size<=s.heap.objs.size:=Ja I.ok.above (Jh I.lt)
theorem Inv.BH (I:Inv X aa σ H s) {a:Addr} (h:s.heap.objs.size<=a):a∉X.fs:=λhb=>by
 obtain ⟨_,o,ho,_⟩:=I.ok.iq.mem hb
 exact absurd (Qq (Qo ho) (Ja I.sz h)) (Jl _)
theorem Inv.u5 (I:Inv X aa σ H s):∀ x c,X.env.cells.lookup x=some c->c≠X.env.locals:=λx c e z=>by
 obtain ⟨v,o,ho,hd⟩:=I.cell x c e
 obtain ⟨m,⟨o',es,ep,ki,A_,_⟩,_⟩:=I.loc
 rw [z,ki] at ho; cases ho; rw [A_] at hd; cases hd
theorem Inv.iq (I:Inv X aa σ H s):s.heap.FunFrames X.base X.outer:=by
 have all:∀ (l:List Env),(∀ b∈dj l,b∈X.fs)->X.gq.heap.FunFrames X.base l->s.heap.FunFrames X.base l:=by
  intro l
  induction l with
  | nil=>intro _ _; trivial
  | cons env r ih =>
   intro hs hl
   obtain ⟨hk,⟨L,o,hf,hn,ho,hd⟩,hr⟩:=hl
   have hL:L∈X.fs:=hs L (by unfold dj; rw [Jx,hf]; exact Qp)
   obtain ⟨sl,e⟩:=I.base.slot L o ho (I.ok.wu L hL) hL λz=>I.ok.vj L z hL
   exact ⟨hk,⟨L,_,hf,hn,e,hd⟩,ih (λb hb=>hs b (by unfold dj; rw [Jx,hf]; exact Qk _ hb)) hr⟩
 exact all X.outer (λ_ hb=>hb) I.ok.iq
theorem Inv.stack (I:Inv X aa σ H s):s.heap.FunFrames X.base X.stack:=by
 rcases I.ok.C8 with e | ⟨e,hf⟩
 ·rw [e]; exact I.iq
 ·rw [e]
  obtain ⟨m,hn,_⟩:=I.loc
  refine .cons (by rw [I.ok.kind]; decide) hf hn ?_ I.iq
  exact Heap.get?_none_of_le (Ja I.ok.yl I.ok.above)
theorem Inv.ir (I:Inv X aa σ H s):∀ b∈dj X.stack,b∈X.env.locals::X.fs:=λb hb=>by
 rcases I.ok.C8 with e | ⟨e,hf⟩
 ·rw [e] at hb; exact Qk _ hb
 ·rw [e] at hb
  unfold dj at hb
  rw [Jx,hf] at hb
  exact hb
theorem Inv.g_ (I:Inv X aa σ H s):∀ b∈dj X.stack,H b=none:=λb hb=>by
 rcases Ql.mp (I.ir b hb) with e | hb
 ·rw [e]; exact I.free
 ·obtain ⟨_,o,ho,_⟩:=I.ok.iq.mem hb
  exact I.base.free b o ho (I.ok.wu b hb) λz=>I.ok.vj b z hb
theorem Inv.step {g':Array GenState} {d':Drawn} (I:Inv X aa σ H s) (tm:∀ b∈ch,(b∈X.ex∨X.gq.heap.objs.size<=b)/\b≠X.env.locals/\(∀ x c,X.env.cells.lookup x=some c->c≠b)/\∀ p∈X.pn++aa,p.1≠b) (keep:∀ b o,b≠X.env.locals->b∉X.fs->b∉ch->s.heap.get? b=some o->H b=none->h'.get? b=some o) (slot:∀ b o,b≠X.env.locals->b∈X.fs->b∉ch->s.heap.get? b=some o->H b=none->∃ sl,h'.get? b=some { o with slots:=sl }) (free:∀ b o,b∉ch->s.heap.get? b=some o->H b=none->H' b=none) (there:∀ b o,b∉ch->s.heap.get? b=some o->∃ o',h'.get? b=some o') (il:∀ b xs,H b=some (.tup xs)->H' b=some (.tup xs)) (gm:∀ b o u,H b=some (.bq o u)->H' b=some (.bq o u)) (ip:∀ b ps,H b=some (.zb ps)->∃ more,H' b=some (.zb (ps++more))) (ns:∀ m,s.heap.Ns X.env.locals m->h'.Ns X.env.locals m) (ax:gi X.prog X.w H' h') (hg:AllBare g') :
  Inv X aa σ H' { s with heap:=h',gens:=g',drawn:=d',toks:=t' }:=by
 have Om:∀ b o,X.gq.heap.get? b=some o->b≠X.env.locals:=λb o e=>Qy (Qq (Qo e) I.ok.above)
 have FQ:∀ b o,X.gq.heap.get? b=some o->b∉X.ex->b∉ch:=λb o e hx hb=>by
  rcases (tm b hb).1 with z | z
  ·exact hx z
  ·exact absurd (Qq (Qo e) z) (Jl _)
 have cellK:∀ x c,X.env.cells.lookup x=some c->∀ v,s.heap.IsCell c v->h'.IsCell c v:=λx c e v ⟨o,ho,hd⟩=>by
  have Dj:c∉ch:=λz=>(tm c z).2.2.1 x c e rfl
  by_cases hc:c∈X.fs
  ·obtain ⟨sl,q⟩:=slot c o (I.u5 x c e) hc Dj ho (I.cy x c e)
   exact ⟨_,q,hd⟩
  ·exact ⟨o,keep c o (I.u5 x c e) hc Dj ho (I.cy x c e),hd⟩
 refine ⟨I.ok,I.os,hg,⟨λb o e n hb hx=>?_,λb o e n hb hx=>?_,λb o e n hx=>?_,λb o e hx=>?_,λb xs e=>il b xs (I.base.il b xs e),λb o xs e=>gm b o xs (I.base.gm b o xs e),λb ps e=>?_⟩,?_,λx c e=>?_,?_,λx c e=>?_,λp hp=>?_,ax,I.len⟩
 ·exact keep b o (Om b o e) hb (FQ b o e hx) (I.base.keep b o e n hb hx) (I.base.free b o e n hx)
 ·obtain ⟨sl,e1⟩:=I.base.slot b o e n hb hx
  obtain ⟨AG,e2⟩:=slot b _ (Om b o e) hb (FQ b o e hx) e1 (I.base.free b o e n hx)
  exact ⟨AG,e2⟩
 ·obtain ⟨o',e1⟩:=I.base.there b o e hx
  exact free b o' (FQ b o e hx) e1 (I.base.free b o e n hx)
 ·obtain ⟨o',e1⟩:=I.base.there b o e hx
  exact there b o' (FQ b o e hx) e1
 ·obtain ⟨m1,e1⟩:=I.base.ip b ps e
  obtain ⟨m2,e2⟩:=ip b _ e1
  exact ⟨m1++m2,by rw [e2,Array.append_assoc]⟩
 ·obtain ⟨m,hn,hl⟩:=I.loc
  refine ⟨m,ns m hn,λi x v e1 e2 e3=>?_⟩
  obtain ⟨u,r,l⟩:=hl i x v e1 e2 e3
  refine ⟨u,r,?_⟩
  rcases l with l | ⟨k,c,e,z⟩
  ·exact .inl l
  ·exact .inr ⟨k,c,e,cellK x c e _ z⟩
 ·obtain ⟨v,z⟩:=I.cell x c e
  exact ⟨v,cellK x c e v z⟩
 ·obtain ⟨m,⟨o,_,_,ho,_⟩,_⟩:=I.loc
  exact free _ o (λz=>(tm _ z).2.1 rfl) ho I.free
 ·obtain ⟨v,o,ho,hd⟩:=I.cell x c e
  exact free c o (λz=>(tm c z).2.2.1 x c e rfl) ho (I.cy x c e)
 ·obtain ⟨e,n,ne,nf,d⟩:=I.pin p hp
  have Dj:p.1∉ch:=λz=>(tm p.1 z).2.2.2 p hp rfl
  exact ⟨keep p.1 p.2 ne nf Dj e n,free p.1 p.2 Dj e n,ne,nf,d⟩
theorem Inv.un (I:Inv X aa σ H s) (u:Un X.fs [] H H' s.heap h') (ax:gi X.prog X.w H' h'):Inv X aa σ H' { s with heap:=h',toks:=t' }:=by
 obtain ⟨m,⟨o,es,ep,ho,r⟩,_⟩:=id I.loc
 obtain ⟨sl,hL⟩:=u.any ho I.free (by simp)
 exact I.step (g':=s.gens) (d':=s.drawn) (ch:=[]) (λ_ z=>nomatch z) (λb o _ hb _ e n=>u.keep b o e n hb (by simp)) (λb o _ hb _ e n=>u.slot b o e n hb (by simp)) (λb o _ e n=>u.free b o e n (by simp)) (λb o _ e=>u.there b o e (by simp)) u.il u.gm u.ip (λm' hm=>by
  obtain ⟨o',D4,D5,ki,r'⟩:=hm
  rw [ho] at ki; cases ki
  exact ⟨_,D4,D5,hL,r'⟩) ax I.bare
theorem Inv.call {g':Array GenState} {d':Drawn} (I:Inv X aa σ H s) (u:Un (dj X.stack) ch H H' s.heap h') (ax:gi X.prog X.w H' h') (hg:AllBare g') (tm:∀ b∈ch,(b∈X.ex∨X.gq.heap.objs.size<=b)/\b≠X.env.locals/\(∀ x c,X.env.cells.lookup x=some c->c≠b)/\∀ p∈X.pn++aa,p.1≠b) :
  Inv X aa σ H' { s with heap:=h',gens:=g',drawn:=d',toks:=t' }:=by
 obtain ⟨m,⟨o,es,ep,ho,r⟩,_⟩:=id I.loc
 obtain ⟨sl,hL⟩:=u.any ho I.free λz=>(tm _ z).2.1 rfl
 exact I.step (ch:=ch) tm (λb o hL hb hc e n=>u.keep b o e n (λz=>(Ql.mp (I.ir b z)).elim hL hb) hc) (λb o _ _ hc e n=>u.any e n hc) (λb o hc e n=>u.free b o e n hc) (λb o hc e=>u.there b o e hc) u.il u.gm u.ip (λm' hm=>by
  obtain ⟨o',D4,D5,ki,r'⟩:=hm
  rw [ho] at ki; cases ki
  exact ⟨_,D4,D5,hL,r'⟩) ax hg
theorem Inv.turned (I:Inv X aa σ H s) (k:∀ b o,b≠it->s.heap.get? b=some o->h'.get? b=some o) (hn:H it=none) (hL:it≠X.env.locals) (h1:it∈X.ex∨X.gq.heap.objs.size<=it) (h2:∀ x c,X.env.cells.lookup x=some c->c≠it) (h3:∀ p∈X.pn++aa,p.1≠it):Inv X aa σ H { s with heap:=h',toks:=t' }:=by
 have Di:∀ b u,H b=some u->b≠it:=λb u e z=>by rw [z,hn] at e; cases e
 refine I.step (g':=s.gens) (d':=s.drawn) (ch:=[it]) (λb hb=>?_) (λb o _ _ hc e _=>k b o (λz=>hc (by simp [z])) e) (λb o _ _ hc e _=>⟨o.slots,k b o (λz=>hc (by simp [z])) e⟩) (λ_ _ _ _ n=>n)
  (λb o hc e=>⟨o,k b o (λz=>hc (by simp [z])) e⟩) (λ_ _ e=>e) (λ_ _ _ e=>e) (λb ps e=>⟨#[],by rw [e]; simp⟩) (λm hm=>?_) (λb u e=>?_) I.bare
 ·have e:b=it:=by simpa using hb
  subst e
  exact ⟨h1,hL,h2,h3⟩
 ·obtain ⟨o,es,ep,ho,r⟩:=hm
  exact ⟨o,es,ep,k _ o (Ne.symm hL) ho,r⟩
 ·refine (I.ax b u e).d_ (λc v hc q=>k c v ?_ q) (λ_ q=>q) λ_ _ q=>q
  rcases hc with z | z
  ·rw [z]; exact Di b u e
  ·exact Di c _ z
theorem Inv.tok (I:Inv X aa σ H s) (t:Nat):Inv X aa σ H { s with toks:=t }:=I.un (h':=s.heap) (t':=t) Un.refl I.ax
theorem Inv.kept (I:Inv X aa σ H s) (k:∀ b u,s.heap.get? b=some u->h'.get? b=some u):Inv X aa σ H { s with heap:=h',toks:=t' }:=I.un (Un.kept k) (I.ax.kept k)
theorem Inv.laid {a:Addr} {o:HO} (I:Inv X aa σ H s) (k:∀ b u,s.heap.get? b=some u->h'.get? b=some u) (hp:s.heap.objs.size<=a) (new:bR X.prog X.w (upd H a o) h' a o) :
  Inv X aa σ (upd H a o) { s with heap:=h',toks:=t' }:=I.un (Un.laid k hp (I.ax.fresh hp)) (I.ax.laid k hp new)
theorem Inv.write {x e:Addr} {o:HO} (I:Inv X aa σ H s) (mu:Bv (H x)) (he:e=x∨H e=some (.own x)) (k:∀ b u,b≠e->s.heap.get? b=some u->h'.get? b=some u) (CD:∃ u,h'.get? e=some u) (new:bR X.prog X.w (upd H x o) h' x o):Inv X aa σ (upd H x o) { s with heap:=h',toks:=t' }:=I.un (Un.write mu he k CD) (I.ax.write mu he k CD new)
theorem Inv.h_ {Au:List (Addr×Obj)} (I:Inv X aa σ H s) (h:∀ p∈Au,s.heap.get? p.1=some p.2/\H p.1=none/\p.1≠X.env.locals/\p.1∉X.fs/\∀ v,p.2.data≠.cell v):Inv X Au σ H s :=
 ⟨I.ok,I.os,I.bare,I.base,I.loc,I.cell,I.free,I.cy,λp hp=>(Jg.mp hp).elim (λz=>I.pin p (Js _ z)) (h p),I.ax,I.len⟩
theorem tL (hN:N.Nodup) {x:Str} (a:N[i]?=some x) (b:N[j]?=some x):i=j:=by
 obtain ⟨h1,e1⟩:=Qa.mp a
 obtain ⟨h2,e2⟩:=Qa.mp b
 exact (Zh hN).mp (e1.trans e2.symm)
theorem qZ {x:Str} {Q:Unit->Shared->Prop} (I:Inv X aa σ H s) (hN:X.N.Nodup) (hi:X.N[i]?=some x) (hx:Loc X.env.scope x) (r:bQ v u) (h:∀ s',Inv X aa (σ.set i (some v)) H s'->(∃ a,Heap.SameBut a s.heap s'.heap/\(a=X.env.locals∨X.env.cells.lookup x=some a))->Q () s') (hf:X.fn x=true∨X.env.scope.names.lookup x=some .local:=by first | exact .inl rfl | exact .inr rfl | assumption):wpAny M A (storeName X.env x u) Q E s:=by
 obtain ⟨m,hn,hl⟩:=id I.loc
 have B0:(X.env.scope.kind==.class || (X.env.scope.kind==.module && X.env.locals !=X.env.globals))=false:=by rw [I.ok.kind]; rfl
 have yw:i < σ.length:=by rw [I.len]; exact (Qa.mp hi).1
 have u5:=I.u5
 have tracked:∀ {a:Addr} {h':Heap},(∃ o,s.heap.get? a=some o/\H a=none)->Heap.SameBut a s.heap h'->gi X.prog X.w H h':=λ{a h'} ha hs b ob e=>by
  obtain ⟨_,_,m9⟩:=ha
  refine (I.ax b ob e).d_ (λc w' hc q=>(hs.2 c ?_).trans q) (λ_ q=>q) λ_ _ q=>q
  rintro rfl
  rcases hc with rfl | hc
  ·rw [m9] at e; cases e
  ·rw [m9] at hc; cases hc
 rcases hx with hk | hk
 ·refine wpAny_storeName_local hk hn (λh' JM hs=>?_) B0
  obtain ⟨oL,_,_,uq,_⟩:=id hn
  refine h _ ⟨I.ok,I.os,I.bare,⟨λb o e n hb hx=>?_,λb o e n hb hx=>?_,I.base.free,λb o e hx=>?_,I.base.il,I.base.gm,I.base.ip⟩,⟨_,JM,λj y v' e1 e2 e3=>?_⟩,λy c e=>?_,I.free,I.cy,λp hp=>?_,tracked ⟨oL,uq,I.free⟩ hs,by simpa using I.len⟩ ⟨_,hs,.inl rfl⟩
  ·exact (hs.2 b (Qy (Qq (Qo e) I.ok.above))).trans (I.base.keep b o e n hb hx)
  ·obtain ⟨sl,e1⟩:=I.base.slot b o e n hb hx
   exact ⟨sl,(hs.2 b (Qy (Qq (Qo e) I.ok.above))).trans e1⟩
  ·obtain ⟨o',e1⟩:=I.base.there b o e hx
   exact ⟨o',(hs.2 b (Qy (Qq (Qo e) I.ok.above))).trans e1⟩
  ·by_cases hj:j=i
   ·subst hj
    rw [hi] at e1; cases e1
    rw [Xz yw] at e2
    cases e2
    exact ⟨u,r,.inl ⟨hk,by simp⟩⟩
   ·rw [Zz (Ne.symm hj)] at e2
    obtain ⟨u',r',q⟩:=hl j y v' e1 e2 e3
    refine ⟨u',r',?_⟩
    rcases q with ⟨k,e⟩ | ⟨k,c,e,z⟩
    ·refine .inl ⟨k,?_⟩
     have:y≠x:=λe=>hj (tL hN e1 (e ▸ hi))
     simp [this,e]
    ·exact .inr ⟨k,c,e,z.sameBut hs (u5 y c e)⟩
  ·obtain ⟨w',z⟩:=I.cell y c e
   exact ⟨w',z.sameBut hs (u5 y c e)⟩
  ·obtain ⟨e,n,ne,nf,d⟩:=I.pin p hp
   exact ⟨(hs.2 p.1 ne).trans e,n,ne,nf,d⟩
 ·have JV:X.fn x=true:=by
   rcases hf with z | z
   ·exact z
   ·rw [z] at hk; cases hk
  obtain ⟨c,hc⟩:=I.ok.has x (.inl hk)
  obtain ⟨w',z⟩:=I.cell x c hc
  refine wpAny_storeName_cell I.ok.kind hk hc z (λh' bz hs=>?_)
  obtain ⟨oc,qc,MX⟩:=id z
  refine h { s with heap:=h' } ⟨I.ok,I.os,I.bare,⟨λb o e n hb hx=>?_,λb o e n hb hx=>?_,I.base.free,λb o e hx=>?_,I.base.il,I.base.gm,I.base.ip⟩,⟨m,hn.sameBut hs (Ne.symm (u5 x c hc)),λj y v' e1 e2 e3=>?_⟩,λy c' e=>?_,I.free,I.cy,λp hp=>?_,tracked ⟨oc,qc,I.cy x c hc⟩ hs,by simpa using I.len⟩ ⟨c,hs,.inr hc⟩
  ·exact (hs.2 b (Qy (Qq (Qo e) (I.ok.Ae x c JV hc)))).trans (I.base.keep b o e n hb hx)
  ·obtain ⟨sl,e1⟩:=I.base.slot b o e n hb hx
   exact ⟨sl,(hs.2 b (Qy (Qq (Qo e) (I.ok.Ae x c JV hc)))).trans e1⟩
  ·obtain ⟨o',e1⟩:=I.base.there b o e hx
   exact ⟨o',(hs.2 b (Qy (Qq (Qo e) (I.ok.Ae x c JV hc)))).trans e1⟩
  ·by_cases hj:j=i
   ·subst hj
    rw [hi] at e1; cases e1
    rw [Xz yw] at e2
    cases e2
    exact ⟨u,r,.inr ⟨.inl hk,c,hc,bz⟩⟩
   ·rw [Zz (Ne.symm hj)] at e2
    obtain ⟨u',r',q⟩:=hl j y v' e1 e2 e3
    refine ⟨u',r',?_⟩
    rcases q with q | ⟨k,c',e,z'⟩
    ·exact .inl q
    ·refine .inr ⟨k,c',e,z'.sameBut hs ?_⟩
     rintro rfl
     exact hj (tL hN e1 (I.ok.inj _ _ _ e hc ▸ hi))
  ·by_cases Ba:c'=c
   ·subst Ba; exact ⟨_,bz⟩
   ·obtain ⟨w2,z2⟩:=I.cell y c' e
    exact ⟨w2,z2.sameBut hs Ba⟩
  ·obtain ⟨e,n,ne,nf,d⟩:=I.pin p hp
   refine ⟨(hs.2 p.1 ?_).trans e,n,ne,nf,d⟩
   intro q
   rw [q,qc] at e
   have q':oc=p.2:=Option.some.inj e
   exact d w' (by rw [<- q']; exact MX)
theorem zY {x:Str} {Q:Unit->Shared->Prop} (I:Inv X aa σ H s) (hN:X.N.Nodup) (hi:X.N[i]?=some x) (hx:Loc X.env.scope x) (r:bQ v u) (h:∀ s',Inv X aa (σ.set i (some v)) H s'->Q () s') (hf:X.fn x=true∨X.env.scope.names.lookup x=some .local:=by first | exact .inl rfl | exact .inr rfl | assumption):wpAny M A (storeName X.env x u) Q E s :=
 qZ I hN hi hx r (λs' I' _=>h s' I') hf
theorem Inv.nk (I:Inv X aa σ H s) (ho:s'.os=s.os) (u:Un (dj X.stack) ch H H' s.heap s'.heap) (ax:gi X.prog X.w H' s'.heap) (hg:AllBare s'.gens) (tm:∀ b∈ch,(b∈X.ex∨X.gq.heap.objs.size<=b)/\b≠X.env.locals/\(∀ x c,X.env.cells.lookup x=some c->c≠b)/\∀ p∈X.pn++aa,p.1≠b):Inv X aa σ H' s':=by
 obtain ⟨h',g',d',t',o'⟩:=s'
 have e:o'=s.os:=ho
 subst e
 exact I.call (g':=g') (t':=t') (d':=d') u ax hg tm
end
abbrev XK:=Value->Option Addr->Hp->Prop
abbrev St:=List (Option V)
abbrev VK:=V->Hp->Prop
abbrev TE:=St->Hp->VK->Prop
end L2
variable {ta tb te to tl tk tv ts td:TE}
namespace L2
open PySem PySem.Spec PyProof.Rows
abbrev TT:=St->Hp->(Bool->Hp->Prop)->Prop
end L2
variable {tc tt:TT}
namespace L2
open PySem PySem.Spec PyProof.Rows
abbrev TA:=St->Hp->(List V->Hp->Prop)->Prop
end L2
variable {tr:TA}
namespace L2
open PySem PySem.Spec PyProof.Rows
structure Ends where
 nx:St->Hp->Prop
 rt:VK
 bk:St->Hp->Prop:=λ_ _=>False
 ct:St->Hp->Prop:=λ_ _=>False
abbrev TS:=Ends->St->Hp->Prop
def EP (X:Cx) (aa:List (Addr×Obj)) (σ:St) (Q:VK) (u:Value) (s':Shared):Prop:=∃ v H',Inv X aa σ H' s'/\bQ v u/\Q v H'
def TP (X:Cx) (aa:List (Addr×Obj)) (σ:St) (Q:Bool->Hp->Prop) (b:Bool) (s':Shared):Prop:=∃ H',Inv X aa σ H' s'/\Q b H'
def AP (X:Cx) (aa:List (Addr×Obj)) (σ:St) (Q:List V->Hp->Prop) (us:List Value) (s':Shared):Prop:=∃ vs H',Inv X aa σ H' s'/\bH vs us/\Q vs H'
def SP (X:Cx) (aa:List (Addr×Obj)) (D:Ends) (f:Flow) (s':Shared):Prop :=
 match f with
 | .next=>∃ ak H',Inv X aa ak H' s'/\D.nx ak H'
 | .brk=>∃ ak H',Inv X aa ak H' s'/\D.bk ak H'
 | .cont=>∃ ak H',Inv X aa ak H' s'/\D.ct ak H'
 | .ret u=>∃ v ak H',Inv X aa ak H' s'/\bQ v u/\D.rt v H'
def PE (X:Cx) (e:Expr) (t:TE):Prop :=
 ∀ (aa:List (Addr×Obj)) (s:Shared) (σ:St) (H:Hp) (Q:VK),Inv X aa σ H s->t σ H Q->wpAny (model X.prog X.w) X.A (eval e X.env) (EP X aa σ Q) X.xe s
def PT (X:Cx) (e:Expr) (t:TT):Prop :=
 ∀ (aa:List (Addr×Obj)) (s:Shared) (σ:St) (H:Hp) (Q:Bool->Hp->Prop),Inv X aa σ H s->t σ H Q->wpAny (model X.prog X.w) X.A (isTrue e X.env (eval e X.env)) (TP X aa σ Q) X.xe s
def PW (X:Cx) (e:Expr) (t:TT):Prop :=
 ∀ (whole:Sem Value) (aa:List (Addr×Obj)) (s:Shared) (σ:St) (H:Hp) (Q:Bool->Hp->Prop),Inv X aa σ H s->t σ H Q->wpAny (model X.prog X.w) X.A (isTrue e X.env whole) (TP X aa σ Q) X.xe s
theorem PW.pt {t:TT} (h:PW X e t):PT X e t:=h _
def PA (X:Cx) (es:List Expr) (t:TA):Prop :=
 ∀ (pos:Pos) (aa:List (Addr×Obj)) (s:Shared) (σ:St) (H:Hp) (Q:List V->Hp->Prop),Inv X aa σ H s->t σ H Q->wpAny (model X.prog X.w) X.A (spliced (backTo pos (starEach es X.env))) (AP X aa σ Q) X.xe s
def PS (X:Cx) (st:Stmt) (t:TS):Prop :=
 ∀ (aa:List (Addr×Obj)) (s:Shared) (σ:St) (H:Hp) (D:Ends),Inv X aa σ H s->t D σ H->wpAny (model X.prog X.w) X.A (exec st X.env) (SP X aa D) X.xe s
def j4 (X:Cx) (st:List Stmt) (t:TS):Prop :=
 ∀ (aa:List (Addr×Obj)) (s:Shared) (σ:St) (H:Hp) (D:Ends),Inv X aa σ H s->t D σ H->wpAny (model X.prog X.w) X.A (execs st X.env) (SP X aa D) X.xe s
theorem bh {t:Sem α} {Q Q':α->Shared->Prop} (h:wpAny M A t Q E s) (hQ:∀ a s,Q a s->Q' a s):wpAny M A t Q' E s:=Rj h hQ λ_ _ x=>x
section
def pQ (i:Nat):TE:=λσ H Q=>∃ v,σ[i]?=some (some v)/\Q v H
abbrev tC (v:V):TE:=λ_ H Q=>Q v H
theorem SY {x:Str} (hN:X.N[i]?=some x) (hv:Hc X.env.scope x) (hd:(x==("__debug__" : Str))=false:=by decide) (ju:(x==("__classdict__" : Str))=false:=by decide):PE X (.Name x pos) (pQ i):=by
 intro aa s σ H Q I h
 obtain ⟨v,e,h⟩:=h
 obtain ⟨m,hn,hl⟩:=I.loc
 obtain ⟨u,r,l⟩:=hl i x v hN e hv
 have fin:EP X aa σ Q u s:=⟨v,H,I,r,h⟩
 rcases l with ⟨hk,hm⟩ | ⟨hk,c,hc,fh⟩
 ·exact Ic (My I.ok.kind hk hn hm fin) hd
 ·rcases hk with hk | hk
  ·exact Ic (wpAny_loadName_cell I.ok.kind hk hc fh fin) hd
  ·exact Ic (Rac I.ok.kind hk hc fh fin ju) hd
theorem aH {i j pos}:PE X (.Constant (.int i) j pos) (tC (.int i)):=λ_ _ _ H _ I h=>wpAny_Constant_int ⟨.int i,H,I.tok _,⟨_,rfl⟩,h⟩
theorem fY {b j pos}:PE X (.Constant (.bool b) j pos) (tC (.bl b)):=λ_ _ _ H _ I h=>Constant_bool ⟨.bl b,H,I,rfl,h⟩
theorem oS {j pos}:PE X (.Constant .none j pos) (tC .br):=λ_ _ _ H _ I h=>Constant_none ⟨.br,H,I,rfl,h⟩
theorem aK {x j pos}:PE X (.Constant (.str x) j pos) (tC (.str x)):=λ_ _ _ H _ I h=>Calls.Constant_str ⟨.str x,H,I.tok _,⟨_,rfl⟩,h⟩
def Gl (X:Cx) (x:Str):Prop:=X.env.kindOf x=some .globalImplicit
theorem lL {σ:St} {x:Str} (I:Inv X aa σ H s) (hg:Gl X x) (hm:X.mg x=some u) (h:Q u s) (hd:(x==("__debug__" : Str))=false:=by decide):wpAny (model X.prog X.w) X.A (eval (.Name x pos) X.env) Q E s :=
 Calls.Name_function_global I.ok.kind hg (Calls.loadGlobal_global (by rw [I.ok.glob]; exact I.mod.glob.keeps I.bk) hm h) hd
theorem mK {σ:St} {x:Str} (I:Inv X aa σ H s) (hg:Gl X x) (hm:X.mg x=none) (hv:bootBuiltins x=some u) (h:Q u s) (hn:x ≠ "__name__" := by decide) (hd:(x==("__debug__" : Str))=false:=by decide):wpAny (model X.prog X.w) X.A (eval (.Name x pos) X.env) Q E s:=by
 obtain ⟨mb,h1,h2⟩:=I.mod.blt
 exact Calls.Name_function_global I.ok.kind hg (Calls.loadGlobal_builtin (by rw [I.ok.glob]; exact I.mod.glob.keeps I.bk) hm (by rw [I.ok.blt]; exact h1.keeps I.bk) ((h2 x hn).trans hv) h) hd
theorem lM {x:Str} (hg:Gl X x) (hm:X.mg x=some u) (r:bQ v u) (hd:(x==("__debug__" : Str))=false:=by decide):PE X (.Name x pos) (tC v) :=
 λ_ _ _ H _ I h=>lL I hg hm ⟨v,H,I,r,h⟩ hd
theorem eI {x:Str} (hg:Gl X x) (hm:X.mg x=none) (hv:bootBuiltins x=some u) (r:bQ v u) (hn:x ≠ "__name__" := by decide) (hd:(x==("__debug__" : Str))=false:=by decide):PE X (.Name x pos) (tC v) :=
 λ_ _ _ H _ I h=>mK I hg hm hv ⟨v,H,I,r,h⟩ hn hd
variable {a b:Expr}
def PC (X:Cx) (op:CmpOp) (a b:Expr) (t:TE):Prop :=
 ∀ (aa:List (Addr×Obj)) (s:Shared) (σ:St) (H:Hp) (Q:VK),Inv X aa σ H s->t σ H Q ->
  wpAny (model X.prog X.w) X.A (eval a X.env) (λv cb=>wpAny (model X.prog X.w) X.A (eval b X.env) (λu jf=>wpAny (model X.prog X.w) X.A (compareOp op v u) (EP X aa σ Q) X.xe jf) X.xe cb) X.xe s
theorem aDh (b:Expr) (h:op≠.In) (h2:op≠.NotIn):behindInMarks op b=false:=by
 have e1:(op==CmpOp.In)=false:=by cases op <;> first | rfl | exact absurd rfl h
 have e2:(op==CmpOp.NotIn)=false:=by cases op <;> first | rfl | exact absurd rfl h2
 cases b <;> simp [behindInMarks,e1,e2]
def aHw (ta:TE):TE:=λσ H Q=>ta σ H λx H1=>Q (.bl (!decide (x=.br))) H1
theorem bQ.vz {x:V} {v:Value} (r:bQ x v):(v==Value.none)=decide (x=.br):=by
 cases x with
 | br=>cases r; rfl
 | bl _=>cases r; rfl
 | int _=>obtain ⟨t,rfl⟩:=r; rfl
 | str _=>obtain ⟨t,rfl⟩:=r; rfl
 | o7 _=>obtain ⟨t,rfl⟩:=r; rfl
 | wx _=>obtain ⟨t,rfl⟩:=r; rfl
 | ref _=>cases r; rfl
 | ty _=>cases r; rfl
theorem aE1 {j pos'} (ha:PE X a ta):PC X .IsNot a (.Constant .none j pos') (aHw ta):=by
 intro aa s σ H Q I h
 refine bh (ha aa s σ H _ I h) λv s1 ay=>?_
 obtain ⟨x,H1,I1,r1,q1⟩:=ay
 exact Constant_none (isnot_none_gen ⟨.bl _,H1,I1,by rw [r1.vz]; rfl,q1⟩)
def tB (t:TE):TT:=λσ H Q=>t σ H λx H1=>∃ c,x=.bl c/\Q c H1
theorem rA {t:TE} (h:PC X op a b t) (h1:behindInMarks op b=false:=by first | exact aDh _ (by decide) (by decide) | rfl):PT X (.Compare a [op] [b] pos) (tB t):=by
 intro aa s σ H Q I hw
 refine Mw (bh (h aa s σ H _ I hw) λv s1 h1=>bh h1 λu s2 h2=>bh h2 λc s3 ay=>?_) h1
 obtain ⟨x,H1,I1,r1,q1⟩:=ay
 obtain ⟨d,rfl,q⟩:=q1
 cases r1
 exact Td ⟨H1,I1,q⟩
theorem bL {t:TE} (h:PE X e t) (he:∀ whole,isTrue e X.env whole=(do let v<-whole; standAt e.pos; holding [v] (truthy v)):=by intro _; rfl):PT X e (tB t):=by
 intro aa s σ H Q I hw
 refine isTrue_plain (bh (h aa s σ H _ I hw) λv s1 ay=>?_) (he _)
 obtain ⟨x,H1,I1,r1,q1⟩:=ay
 obtain ⟨d,rfl,q⟩:=q1
 cases r1
 exact Td ⟨H1,I1,q⟩
variable {tA FH:TT} {bO:List Expr}
def K4 (t u:TT):TT:=λσ H Q=>t σ H λc H1=>if c=true then u σ H1 Q else Q false H1
def NO (t u:TT):TT:=λσ H Q=>t σ H λc H1=>if c=true then Q true H1 else u σ H1 Q
def RT (t:TT):TT:=λσ H Q=>t σ H λc H1=>Q (!c) H1
theorem lN (ha:PT X a tA):PW X (.BoolOp .And [a] pos) tA:=by
 intro wh aa s σ H Q I h
 refine isTrue_and (bh (ha aa s σ H Q I h) λc s1 e=>?_)
 cases c with
 | true=>exact isTrue_and_nil e
 | false=>exact e
theorem eV (ha:PT X a tA):PW X (.BoolOp .Or [a] pos) tA:=by
 intro wh aa s σ H Q I h
 refine isTrue_or (bh (ha aa s σ H Q I h) λc s1 e=>?_)
 cases c with
 | false=>exact isTrue_or_nil e
 | true=>exact e
theorem mL (ha:PT X a tA) (hb:PW X (.BoolOp .And (b::bO) pos) FH):PW X (.BoolOp .And (a::b::bO) pos) (K4 tA FH):=by
 intro wh aa s σ H Q I h
 refine isTrue_and (bh (ha aa s σ H _ I h) λc s1 ay=>?_)
 obtain ⟨H1,I1,q1⟩:=ay
 cases c with
 | true=>exact hb wh aa s1 σ H1 Q I1 q1
 | false=>exact ⟨H1,I1,q1⟩
theorem fZ (ha:PT X a tA) (hb:PW X (.BoolOp .Or (b::bO) pos) FH):PW X (.BoolOp .Or (a::b::bO) pos) (NO tA FH):=by
 intro wh aa s σ H Q I h
 refine isTrue_or (bh (ha aa s σ H _ I h) λc s1 ay=>?_)
 obtain ⟨H1,I1,q1⟩:=ay
 cases c with
 | true=>exact ⟨H1,I1,q1⟩
 | false=>exact hb wh aa s1 σ H1 Q I1 q1
theorem bV (ha:PT X a tA):PT X (.UnaryOp .Not a pos) (RT tA):=by
 intro aa s σ H Q I h
 exact isTrue_not (ha aa s σ H (λc H1=>Q (!c) H1) I h)
def aHy (ta tb:TE):TE:=λσ H Q=>ta σ H λx H1=>∃ c,x=.bl c/\if c=true then tb σ H1 Q else Q (.bl false) H1
def aHz (ta:TE):TE:=λσ H Q=>ta σ H λx H1=>∃ c,x=.bl c/\Q (.bl (!c)) H1
theorem oU {op} {t:TE} (h:PE X a t):PE X (.BoolOp op [a] pos) t:=λaa s σ H Q I hw=>BoolOp_one (h aa s σ H Q I hw)
theorem oV (ha:PE X a ta) (hb:PE X (.BoolOp .And (b::bO) pos) tb):PE X (.BoolOp .And (a::b::bO) pos) (aHy ta tb):=by
 intro aa s σ H Q I h
 refine BoolOp_and (bh (ha aa s σ H _ I h) λv s1 ay=>?_)
 obtain ⟨x,H1,I1,r1,q1⟩:=ay
 obtain ⟨c,rfl,q1⟩:=q1
 cases r1
 refine Td ?_
 cases c with
 | true=>exact hb aa s1 σ H1 Q I1 q1
 | false=>exact ⟨.bl false,H1,I1,rfl,q1⟩
theorem LJ (ha:PE X a ta):PE X (.UnaryOp .Not a pos) (aHz ta):=by
 intro aa s σ H Q I h
 refine UnaryOp_ (bh (ha aa s σ H _ I h) λv s1 ay=>?_)
 obtain ⟨x,H1,I1,r1,q1⟩:=ay
 obtain ⟨c,rfl,q1⟩:=q1
 cases r1
 exact not_of (Td ⟨.bl (!c),H1,I1,rfl,q1⟩)
end
def au (K:Rb) (H:Hp) (a:Addr) (xs:List V):Prop :=
 Rd H a (.lst xs) ∨
  ∃ (o:Obj) (ag:Array Value) (n:Nat),K.lookup a=some o/\o.cls=.type "list" /\ o.dict=none/\o.data=.seq ag n/\ag.size<=sizeLine/\bH xs ag.toList
def aq (K:Rb) (H:Hp) (a:Addr) (xs:List V):Prop :=
 Rd H a (.tup xs) ∨
  ∃ (o:Obj) (ag:Array Value) (n:Nat),K.lookup a=some o/\o.cls=.type "tuple" /\ o.dict=none/\o.data=.seq ag n/\ag.size<=sizeLine/\bH xs ag.toList
def Z?:Value->Option V
 | .none=>some .br
 | .bool b=>some (.bl b)
 | .int i _=>some (.int i)
 | .str x _=>some (.str x)
 | .bytes b _=>some (.o7 b)
 | .float b _=>some (.wx b)
 | .ref a=>some (.ref a)
 | .type n=>some (.ty n)
 | _=>none
theorem bQ.abs {x:V} (r:bQ x u):Z? u=some x:=by
 cases x with
 | br=>cases r; rfl
 | bl _=>cases r; rfl
 | int _=>obtain ⟨t,rfl⟩:=r; rfl
 | str _=>obtain ⟨t,rfl⟩:=r; rfl
 | o7 _=>obtain ⟨t,rfl⟩:=r; rfl
 | wx _=>obtain ⟨t,rfl⟩:=r; rfl
 | ref _=>cases r; rfl
 | ty _=>cases r; rfl
theorem bQ.inj {x:V} (r:bQ x u) (q:bQ y u):x=y:=Option.some.inj (r.abs.symm.trans q.abs)
theorem bH.inj:∀ {xs ys:List V} {us:List Value},bH xs us->bH ys us->xs=ys
 := by
 intro xs ys us h
 induction h generalizing ys with
 | nil=>intro q; cases q; rfl
 | cons r t ih=>intro q; cases q with | cons r' t'=>rw [r.inj r',ih t']
section
variable {σ:St} {a:Addr}
theorem au.of (h:H a=some (.lst xs)):au K H a xs:=.inl (.inl h)
theorem aq.of (h:H a=some (.tup xs)):aq K H a xs:=.inl (.inl h)
theorem Inv.list (I:Inv X aa σ H s) (h:au X.K H a xs):∃ ag:List Value,bH xs ag/\PlainL s.heap a ag.toArray/\xs.length<=sizeLine:=by
 rcases h with h | ⟨o,ag,n,hk,hc,hd,hs,hz,r⟩
 ·obtain ⟨z,ag,n,r,e⟩:=h.ok I.ax
  exact ⟨ag,r,⟨_,n,e,rfl,rfl,rfl⟩,z⟩
 ·refine ⟨ag.toList,r,⟨o,n,I.i_ a o hk,hc,hd,by simpa using hs⟩,?_⟩
  have e:=r.length
  simp only [Array.length_toList] at e
  omega
theorem Inv.tuple (I:Inv X aa σ H s) (h:aq X.K H a xs):∃ ag:List Value,bH xs ag/\IsTup s.heap a ag.toArray/\xs.length<=sizeLine:=by
 rcases h with h | ⟨o,ag,n,hk,hc,_,hs,hz,r⟩
 ·obtain ⟨z,ag,n,r,p⟩:=h.ok I.ax
  exact ⟨ag,r,⟨_,p,rfl,n,rfl⟩,z⟩
 ·refine ⟨ag.toList,r,⟨o,I.i_ a o hk,hc,n,by simpa using hs⟩,?_⟩
  have e:=r.length
  simp only [Array.length_toList] at e
  omega
theorem Inv.ny (I:Inv X aa σ H s) (h:au X.K H a xs) (h':au X.K H a ys):xs=ys:=by
 obtain ⟨ag,r,⟨o,n,e,_,_,d⟩,_⟩:=I.list h
 obtain ⟨its',r',⟨o',n',e',_,_,d'⟩,_⟩:=I.list h'
 rw [e] at e'; cases e'
 rw [d] at d'
 injection d' with d1 _
 have:ag=its':=by simpa using congrArg Array.toList d1
 subst this
 exact r.inj r'
theorem Inv.kg (I:Inv X aa σ H s) (h:aq X.K H a xs) (h':aq X.K H a ys):xs=ys:=by
 obtain ⟨ag,r,⟨o,e,_,n,d⟩,_⟩:=I.tuple h
 obtain ⟨its',r',⟨o',e',_,n',d'⟩,_⟩:=I.tuple h'
 rw [e] at e'; cases e'
 rw [d] at d'
 injection d' with d1 _
 have:ag=its':=by simpa using congrArg Array.toList d1
 subst this
 exact r.inj r'
end
abbrev Cx.ik (X:Cx) (E:Value->Shared->Prop):Cx:={ X with xe:=E }
abbrev Cx.ud (X:Cx):Cx:=X.ik λ_ _=>False
theorem Cx.Ok.ik (ok:X.Ok) (E:Value->Shared->Prop):(X.ik E).Ok :=
 ⟨ok.mod,ok.kind,ok.glob,ok.blt,ok.above,ok.inj,ok.has,ok.Ae,ok.hd,ok.frames,ok.C8,ok.D0,ok.bs,ok.yl,ok.kn,ok.vj,ok.iq,ok.wu⟩
theorem Cx.Ok.df (ok:(X.ik E).Ok):X.Ok :=
 ⟨ok.mod,ok.kind,ok.glob,ok.blt,ok.above,ok.inj,ok.has,ok.Ae,ok.hd,ok.frames,ok.C8,ok.D0,ok.bs,ok.yl,ok.kn,ok.vj,ok.iq,ok.wu⟩
section
variable {σ:St}
theorem Inv.ik (I:Inv X aa σ H s) (E:Value->Shared->Prop):Inv (X.ik E) aa σ H s:=⟨I.ok.ik E,I.os,I.bare,I.base,I.loc,I.cell,I.free,I.cy,I.pin,I.ax,I.len⟩
theorem Inv.df (I:Inv (X.ik E) aa σ H s):Inv X aa σ H s:=⟨I.ok.df,I.os,I.bare,I.base,I.loc,I.cell,I.free,I.cy,I.pin,I.ax,I.len⟩
theorem SP.df {D:Ends} {f:Flow} (h:SP (X.ik E) aa D f s'):SP X aa D f s':=by
 cases f with
 | next=>obtain ⟨ak,H',I,q⟩:=h; exact ⟨ak,H',I.df,q⟩
 | brk=>obtain ⟨ak,H',I,q⟩:=h; exact ⟨ak,H',I.df,q⟩
 | cont=>obtain ⟨ak,H',I,q⟩:=h; exact ⟨ak,H',I.df,q⟩
 | ret u=>obtain ⟨v,ak,H',I,r,q⟩:=h; exact ⟨v,ak,H',I.df,r,q⟩
theorem j4.ud {st:List Stmt} {t:TS} (h:j4 X.ud st t):j4 X st t:=λaa s σ H D I hw =>
 Rj (h aa s σ H D (I.ik _) hw) (λ_ _ q=>q.df) λ_ _ z=>False.elim z
end
section
variable {bO:List Stmt} {t u:TS}
def jS:TS:=λD σ H=>D.nx σ H
def CZ (t u:TS):TS:=λD σ H=>t { D with nx:=u D } σ H
theorem aS:j4 X [] jS:=λ_ _ σ H _ I h=>Tr ⟨σ,H,I,h⟩
theorem aE (h1:PS X st t) (h2:j4 X bO u):j4 X (st::bO) (CZ t u):=by
 intro aa s σ H D I h
 refine Up (bh (h1 aa s σ H { D with nx:=u D } I h) λf s1 q=>?_)
 cases f with
 | next =>
  obtain ⟨ak,H',I',q⟩:=q
  exact h2 aa s1 ak H' D I' q
 | ret v=>exact q
 | brk=>exact q
 | cont=>exact q
theorem aJ (h1:PS X st t):j4 X [st] t:=by
 intro aa s σ H D I h
 refine Up (bh (h1 aa s σ H D I h) λf s1 q=>?_)
 cases f with
 | next=>exact Tr q
 | ret v=>exact q
 | brk=>exact q
 | cont=>exact q
def aGI:TS:=λD σ H=>D.bk σ H
theorem aDi:PS X (.Break pos) aGI:=λ_ _ σ H _ I h=>wpAny_Break ⟨σ,H,I,h⟩
theorem Inv.quiet {σ:St} (I:Inv X aa σ H s):interactive X.env=false:=by simp [interactive,I.ok.kind]
def Lc (te:TE):TS:=λD σ H=>te σ H λ_ H1=>D.nx σ H1
theorem cK (he:PE X e te) (hs:swapsWith e none pos.line X.env=pure false:=by rfl):PS X (.Expr e pos) (Lc te):=by
 intro aa s σ H D I h
 refine Mf (bh (he aa s σ H _ I h) λv s1 ay=>?_) I.quiet hs
 obtain ⟨x,H1,I1,r1,q1⟩:=ay
 exact ⟨σ,H1,I1,q1⟩
def Sa (te:TE):TS:=λD σ H=>te σ H D.rt
theorem aR (he:PE X e te):PS X (.Return (some e) pos) (Sa te):=by
 intro aa s σ H D I h
 refine wpAny_Return_some (bh (he aa s σ H _ I h) λv s1 ay=>?_)
 obtain ⟨x,H1,I1,r1,q1⟩:=ay
 exact ⟨x,σ,H1,I1,r1,q1⟩
def Eb (c:TT) (t u:TS):TS:=λD σ H=>c σ H λb H1=>if b=true then t D σ H1 else u D σ H1
theorem bI {c:Expr} {a b:List Stmt} (hc:PT X c tc) (ha:j4 X a t) (hb:j4 X b u):PS X (.If c a b pos) (Eb tc t u):=by
 intro aa s σ H D I h
 refine wpAny_If (bh (hc aa s σ H _ I h) λd s1 ay=>?_)
 obtain ⟨H1,I1,q1⟩:=ay
 cases d with
 | true=>exact ha aa s1 σ H1 D I1 q1
 | false=>exact hb aa s1 σ H1 D I1 q1
def aGJ:TS:=λ_ _ _=>False
theorem dY {Cj:List Stmt}:j4 X Cj aGJ:=λ_ _ _ _ _ _ h=>h.elim
end
abbrev TG:=V->St->Hp->(St->Hp->Prop)->Prop
end L2
variable {g:TG}
namespace L2
open PySem PySem.Spec PyProof.Rows
abbrev Aj:=List V->St->Hp->(St->Hp->Prop)->Prop
def PG (X:Cx) (target:Expr) (t:TG):Prop :=
 ∀ (aa:List (Addr×Obj)) (s:Shared) (σ:St) (H:Hp) (v:V) (u:Value) (Q:St->Hp->Prop),Inv X aa σ H s->bQ v u->t v σ H Q ->
  wpAny (model X.prog X.w) X.A (assign target X.env u) (λ_ s'=>∃ ak H',Inv X aa ak H' s'/\Q ak H') X.xe s
def En (X:Cx) (ts:List Expr) (t:Aj):Prop :=
 ∀ (aa:List (Addr×Obj)) (s:Shared) (σ:St) (H:Hp) (vs:List V) (us:List Value) (Q:St->Hp->Prop),Inv X aa σ H s->bH vs us->t vs σ H Q ->
  wpAny (model X.prog X.w) X.A (assignInOrder ((assignEach ts X.env).map (·.2)) us) (λ_ s'=>∃ ak H',Inv X aa ak H' s'/\Q ak H') X.xe s
abbrev K3:=V->V->V->Hp->(Hp->Prop)->Prop
def R_ (X:Cx) (t:K3):Prop :=
 ∀ (aa:List (Addr×Obj)) (s:Shared) (σ:St) (H:Hp) (o i v:V) (ov iv u:Value) (Q:Hp->Prop),Inv X aa σ H s->bQ o ov->bQ i iv->bQ v u->t o i v H Q ->
  wpAny (model X.prog X.w) X.A (setItem ov iv u) (λ_ s'=>∃ H',Inv X aa σ H' s'/\Q H') X.xe s
def bN (i:Nat):TG:=λv σ H Q=>Q (σ.set i (some v)) H
theorem aV {x:Str} (hN:X.N.Nodup) (hi:X.N[i]?=some x) (hx:Loc X.env.scope x) (hf:X.fn x=true∨X.env.scope.names.lookup x=some .local:=by first | exact .inl rfl | exact .inr rfl | assumption):PG X (.Name x pos) (bN i):=by
 intro aa s σ H v u Q I r h
 exact Rae (zY I hN hi hx r (λs' I'=>⟨_,H,I',h⟩) hf)
def Z!:Aj:=λvs σ H Q=>vs = []/\Q σ H
def aHC (t:TG) (u:Aj):Aj:=λvs σ H Q=>∃ v r,vs=v::r/\t v σ H λak H'=>u r ak H' Q
theorem lO:En X [] Z!:=by
 intro aa s σ H vs us Q I r h
 obtain ⟨e,h⟩:=h
 subst e
 cases r
 exact assignInOrder_nil ⟨σ,H,I,h⟩
theorem dJ {t:TG} {u:Aj} (h1:PG X e t) (h2:En X es u) (hs:(assignEach (e::es) X.env).map (·.2)=assign e X.env::(assignEach es X.env).map (·.2):=by rfl):En X (e::es) (aHC t u):=by
 intro aa s σ H vs us Q I r h
 obtain ⟨v,vr,e1,h⟩:=h
 subst e1
 cases r with
 | cons r rr =>
  rw [hs]
  refine assignInOrder_cons (bh (h1 aa s σ H _ _ _ I r h) λ_ s1 ay=>?_)
  obtain ⟨Cg,H1,I1,q1⟩:=ay
  exact h2 aa s1 Cg H1 _ _ Q I1 rr q1
def R9 (K:Rb) (n:Nat) (t:Aj):TG:=λv σ H Q=>∃ a xs,v=.ref a/\aq K H a xs/\xs.length=n/\t xs σ H Q
theorem oW {k:Nat} {t:Aj} (hc:X.calm=true) (h:En X es t) (hn:(assignEach es X.env).length=n:=by rfl) (ig:(assignEach es X.env).findIdx? (·.1)=none:=by rfl):PG X (.Tuple es k pos) (R9 X.K n t):=by
 intro aa s σ H v u Q I r hw
 obtain ⟨a,xs,e1,hq,hl,hw⟩:=hw
 subst e1
 cases r
 obtain ⟨ag,rv,ht,hz⟩:=I.tuple hq
 refine assign_Tuple_tuple (I.ok.hd hc) ht (by simp [hn,<- hl,rv.length]) ig λh' hx=>?_
 have I1:Inv X aa σ H { s with heap:=h' }:=I.kept (t':=s.toks) λb o e=>hx b o (Qy (Qo e)) e
 exact h aa _ σ H xs _ Q I1 (by simpa using rv) hw
def Y? (to ti:TE) (t:K3):TG:=λv σ H Q=>to σ H λo H1=>ti σ H1 λi H2=>t o i v H2 λH3=>Q σ H3
theorem xS {o i:Expr} {ti:TE} {t:K3} (ho:PE X o to) (hi:PE X i ti) (hs:R_ X t) (ha:∀ v,assign (.Subscript o i pos) X.env v=(do
   let ov<-holding [v] (eval o X.env)
   let iv<-holding [v,ov] (eval i X.env)
   standAt pos
   holding [v,ov,iv] (setItem ov iv v)
   release [v,ov,iv] []):=by intro _; rfl):PG X (.Subscript o i pos) (Y? to ti t):=by
 intro aa s σ H v u Q I r h
 rw [ha]
 refine Ra (Rx (bh (ho aa s σ H _ I h) λov s1 ay=>?_))
 obtain ⟨x,H1,I1,r1,q1⟩:=ay
 refine Ra (Rx (bh (hi aa s1 σ H1 _ I1 q1) λiv s2 ay=>?_))
 obtain ⟨y,H2,I2,r2,q2⟩:=ay
 refine Ra (Va (Ra (Rx (bh (hs aa s2 σ H2 x y v ov iv u _ I2 r1 r2 r q2) λ_ s3 ay=>?_))))
 obtain ⟨H3,I3,q3⟩:=ay
 exact wpAny_release ⟨σ,H3,I3,q3⟩
def Bo (te:TE) (g:TG):TS:=λD σ H=>te σ H λx H1=>g x σ H1 D.nx
theorem tM (he:PE X e te) (hg:PG X tg g) (hs:swapsWithSole [tg] e pos.line X.env=pure false:=by rfl) (hw:swappedStores [tg] e X.env=pure none:=by rfl) (h1:(assignEach [tg] X.env).map (·.2) = [assign tg X.env]:=by rfl):PS X (.Assign [tg] e pos) (Bo te g):=by
 intro aa s σ H D I h
 refine wpAny_Assign_stores (bh (he aa s σ H _ I h) λv s1 ay=>?_) hs hw
 obtain ⟨x,H1,I1,r1,q1⟩:=ay
 rw [h1]
 exact bh (hg aa s1 σ H1 x v _ I1 r1 q1) λ_ s2 q=>q
theorem aX {x:Str} (hN:X.N.Nodup) (hi:X.N[i]?=some x) (hx:Loc X.env.scope x) (he:PE X e te) (hs:swapsWith e (some (.Name x pos')) pos.line X.env=pure false:=by rfl) (hf:X.fn x=true∨X.env.scope.names.lookup x=some .local:=by first | exact .inl rfl | exact .inr rfl | assumption) :
  PS X (.Assign [.Name x pos'] e pos) (Bo te (bN i)):=by
 intro aa s σ H D I h
 refine wpAny_Assign_Name (bh (he aa s σ H _ I h) λv s1 ay=>?_) hs
 obtain ⟨y,H1,I1,r1,q1⟩:=ay
 exact zY I1 hN hi hx r1 (λs2 I2=>⟨_,H1,I2,q1⟩) hf
def aGL (c:TT) (tb:TS):TS:=λD σ H=>∃ W:Nat->St->Hp->Prop,(∃ m,W m σ H)/\∀ m σ H,W m σ H ->
 c σ H λb H1=>if b=true then ∃ N:St->Hp->Prop,(∀ ak H',N ak H'->∃ m',m' < m/\W m' ak H')/\tb { D with nx:=N,ct:=N,bk:=D.nx } σ H1 else D.nx σ H1
theorem tN {c:Expr} {tb:TS} (hp:PassesOwn (model X.prog X.w) X.A X.env X.xe) (hc:PT X c tc) (hb:j4 X body tb):PS X (.While c body [] pos) (aGL tc tb):=by
 intro aa s σ H D I h
 obtain ⟨W,⟨m0,w0⟩,turn⟩:=h
 refine wpAny_While (codeAny_whileLoop (λn s'=>∃ ak H',Inv X aa ak H' s'/\W n ak H') ?_ m0 ⟨σ,H,I,w0⟩)
 rintro n s1 ⟨Cg,H1,I1,w1⟩
 refine Tt hp (bh (hc aa s1 Cg H1 _ I1 (turn n Cg H1 w1)) λb s2 ay=>?_)
 obtain ⟨H2,I2,q2⟩:=ay
 cases b with
 | true =>
  obtain ⟨N,hN,q2⟩:=q2
  rw [if_pos rfl]
  refine Tt hp (bh (hb aa s2 Cg H2 _ I2 q2) λf s3 q3=>?_)
  cases f with
  | next =>
   obtain ⟨qq,H3,I3,n3⟩:=q3
   obtain ⟨m',hm,w3⟩:=hN qq H3 n3
   exact ⟨m',hm,qq,H3,I3,w3⟩
  | cont =>
   obtain ⟨qq,H3,I3,n3⟩:=q3
   obtain ⟨m',hm,w3⟩:=hN qq H3 n3
   exact ⟨m',hm,qq,H3,I3,w3⟩
  | brk=>exact q3
  | ret v=>exact q3
 | false =>
  rw [if_neg Qu]
  exact Tr ⟨Cg,H2,I2,q2⟩
structure It where
 go:Nat->Hp->Prop
 pw:Nat->Hp->V->Hp->Prop
 stop:Nat->Hp->Prop
end L2
variable {J:It}
namespace L2
open PySem PySem.Spec PyProof.Rows
def sM (X:Cx) (aa:List (Addr×Obj)) (H:Hp) (b:Addr):Prop :=
 H b=none/\b≠X.env.locals/\b∉X.fs/\(b∈X.ex∨X.gq.heap.objs.size<=b)/\(∀ x c,X.env.cells.lookup x=some c->c≠b)/\∀ p∈X.pn++aa,p.1≠b
theorem Inv.j8 {σ:St} {b:Addr} (I:Inv X aa σ H s) (hb:s.heap.objs.size<=b) (hn:H' b=none):sM X aa H' b:=by
 refine ⟨hn,Zj (Qq I.lt hb),I.BH hb,.inr (Ja I.sz hb),λx c e z=>?_,λp hp z=>?_⟩
 ·obtain ⟨v,q⟩:=I.cell x c e
  exact absurd (Qq q.lt (by rw [z]; exact hb)) (Jl _)
 ·exact absurd (Qq (Qo (I.pin p hp).1) (by rw [z]; exact hb)) (Jl _)
structure Turn (P:Program) (w:World) (K:Rb) (tg:Expr) (J:It) (fp:List Addr) (it:Addr) (tn:Nat->Heap->Prop):Prop where
 mem:it∈fp
 obj:∀ i h,tn i h->∀ b∈fp,∃ o,h.get? b=some o/\∀ v,o.data≠.cell v
 keep:∀ i h h',tn i h->(∀ b∈fp,∀ o,h.get? b=some o->h'.get? b=some o)->tn i h'
 item:∀ (X:Cx),X.prog=P->X.w=w->X.K=K->X.calm=true->∀ (i:Nat) (aa:List (Addr×Obj)) (s:Shared) (σ:St) (H:Hp) (E:Value->Shared->Prop),Inv X aa σ H s->(∀ b∈fp,sM X aa H b)->tn i s.heap->J.go i H ->
  wpAny (model P w) X.A (pyNext (.ref it)) (λr s1=>∃ u,r=some u /\
   wpAny (model P w) X.A (letOwnedTupleGo tg (.ref it) u) (λ_ s2=>∃ x H',Inv X aa σ H' s2/\bQ x u/\J.pw i H x H'/\tn (i+1) s2.heap/\∀ b∈fp,H' b=none) E s1) E s
 done:∀ (X:Cx),X.prog=P->X.w=w->X.K=K->X.calm=true->∀ (i:Nat) (aa:List (Addr×Obj)) (s:Shared) (σ:St) (H:Hp) (E:Value->Shared->Prop),Inv X aa σ H s->(∀ b∈fp,sM X aa H b)->tn i s.heap->J.stop i H ->
  wpAny (model P w) X.A (pyNext (.ref it)) (λr s1=>r=none/\Inv X aa σ H s1) E s
 self:∀ (A:Around) (i:Nat) (s:Shared) (Q:Value->Shared->Prop) (E:Value->Shared->Prop),tn i s.heap->Q (.ref it) s->wpAny (model P w) A (pyIter (.ref it)) Q E s
abbrev TI:=St->Hp->(It->Hp->Prop)->Prop
def VP (X:Cx) (aa:List (Addr×Obj)) (σ:St) (tg:Expr) (R:It->Hp->Prop) (IS:Value) (s2:Shared):Prop :=
 ∃ (it:Addr) (fp:List Addr) (tn:Nat->Heap->Prop) (J:It) (H':Hp),IS=.ref it/\Inv X aa σ H' s2/\Turn X.prog X.w X.K tg J fp it tn/\tn 0 s2.heap/\(∀ b∈fp,sM X aa H' b)/\R J H'
def PI (X:Cx) (tg iter:Expr) (wi:TI):Prop :=
 ∀ (aa:List (Addr×Obj)) (s:Shared) (σ:St) (H:Hp) (R:It->Hp->Prop),Inv X aa σ H s->wi σ H R ->
  wpAny (model X.prog X.w) X.A (eval iter X.env) (λv s1=>wpAny (model X.prog X.w) X.A (pyIter v) (VP X aa σ tg R) X.xe s1) X.xe s
theorem zZ {n:String} {vs:Array Value} {Q:Unit->Shared->Prop} (ho:s.heap.get? it=some o) (hc:o.cls=.type n) (hd:o.data=.fields vs) (hn : ["enumerate", "zip", "dict_itemiterator", "dict_reverseitemiterator", "odict_iterator", "itertools.zip_longest", "itertools.pairwise"].contains n=false) (hQ:Q () s):wpAny M A (letOwnedTupleGo tg (.ref it) u) Q E s:=by
 unfold letOwnedTupleGo
 cases tg <;> first
  | exact Rc hQ
  | (cases u <;> first
    | exact Rc hQ
    | (refine Ra (wpAny_load ho ?_)
       rw [hc,hd]
       show wpAny M A (if (["enumerate", "zip", "dict_itemiterator", "dict_reverseitemiterator", "odict_iterator", "itertools.zip_longest", "itertools.pairwise"].contains n && vs[0]?==some (rawInt _))=true then _ else _) Q E s
       rw [if_neg (by intro h; rw [hn,Bool.false_and] at h; cases h)]
       exact Rc hQ))
def xa (K:Rb) (a:Addr):It :=
 ⟨λi H=>∃ xs x,au K H a xs/\xs[i]?=some x,λi H x H'=>H'=H/\∀ xs,au K H a xs->xs[i]?=some x,λi H=>∃ xs,au K H a xs/\xs.length<=i⟩
def An (K:Rb) (a:Addr):It :=
 ⟨λi H=>∃ xs x,aq K H a xs/\xs[i]?=some x,λi H x H'=>H'=H/\∀ xs,aq K H a xs->xs[i]?=some x,λi H=>∃ xs,aq K H a xs/\xs.length<=i⟩
def Ao (lo:Int) (n:Nat):It:=⟨λi _=>i < n,λi H x H'=>H'=H/\x=.int (lo+i),λi _=>n<=i⟩
theorem aCF (a it:Addr):Turn P w K tg (xa K a) [it] it (λi h=>h.IsListIter it a i) where
 mem:=by simp
 obj:=λi h st b hb=>by
  have e:b=it:=by simpa using hb
  subst e
  obtain ⟨o,e,c,d⟩:=st
  exact ⟨o,e,λv z=>by rw [d] at z; cases z⟩
 keep:=λi h h' st k=>st.at λo e=>k it (by simp) o e
 item:=by
  intro X hP hw hK hc i aa s σ H E I hf st hg
  subst hP hw hK
  obtain ⟨xs,x,hq,hx⟩:=hg
  obtain ⟨ag,rv,p,hz⟩:=I.list hq
  obtain ⟨u,hu,ru⟩:=rv.get hx
  obtain ⟨f0,f1,f2,f3,f4,f5⟩:=hf it (by simp)
  refine wpAny_pyNext_list_item st p.isList (x:=u) (by simpa using hu) λh' n9 sb=>?_
  have I1:Inv X aa σ H { s with heap:=h' }:=I.turned (t':=s.toks) (λb o hb e=>(sb.2 b hb).trans e) f0 f1 f3 f4 f5
  obtain ⟨o,e,c,d⟩:=id n9
  exact ⟨u,rfl,zZ (s:={ s with heap:=h' }) e c d (by decide) ⟨x,H,I1,ru,⟨rfl,λys hy=>by rw [I.ny hy hq]; exact hx⟩,n9,λb hb=>(hf b hb).1⟩⟩
 done:=by
  intro X hP hw hK hc i aa s σ H E I hf st hg
  subst hP hw hK
  obtain ⟨xs,hq,hx⟩:=hg
  obtain ⟨ag,rv,p,hz⟩:=I.list hq
  obtain ⟨f0,f1,f2,f3,f4,f5⟩:=hf it (by simp)
  have hl:=rv.length
  exact wpAny_pyNext_list_end (I.ok.hd hc) st p.isList (by simp; omega) λh' eb=>⟨rfl,I.turned (t':=s.toks) (λb o hb e=>eb b o hb e) f0 f1 f3 f4 f5⟩
 self:=λ_ _ _ _ _ st h=>wpAny_pyIter_listiter st h
theorem aA3 (a it:Addr):Turn P w K tg (An K a) [it] it (λi h=>h.IsTupleIter it a i) where
 mem:=by simp
 obj:=λi h st b hb=>by
  have e:b=it:=by simpa using hb
  subst e
  obtain ⟨o,e,c,d⟩:=st
  exact ⟨o,e,λv z=>by rw [d] at z; cases z⟩
 keep:=λi h h' st k=>st.at λo e=>k it (by simp) o e
 item:=by
  intro X hP hw hK hc i aa s σ H E I hf st hg
  subst hP hw hK
  obtain ⟨xs,x,hq,hx⟩:=hg
  obtain ⟨ag,rv,p,hz⟩:=I.tuple hq
  obtain ⟨u,hu,ru⟩:=rv.get hx
  obtain ⟨f0,f1,f2,f3,f4,f5⟩:=hf it (by simp)
  refine wpAny_pyNext_tuple_item st (show s.heap.IsTuple a ag.toArray from p) (x:=u) (by simpa using hu) λh' n9 sb=>?_
  have I1:Inv X aa σ H { s with heap:=h' }:=I.turned (t':=s.toks) (λb o hb e=>(sb.2 b hb).trans e) f0 f1 f3 f4 f5
  obtain ⟨o,e,c,d⟩:=id n9
  exact ⟨u,rfl,zZ (s:={ s with heap:=h' }) e c d (by decide) ⟨x,H,I1,ru,⟨rfl,λys hy=>by rw [I.kg hy hq]; exact hx⟩,n9,λb hb=>(hf b hb).1⟩⟩
 done:=by
  intro X hP hw hK hc i aa s σ H E I hf st hg
  subst hP hw hK
  obtain ⟨xs,hq,hx⟩:=hg
  obtain ⟨ag,rv,p,hz⟩:=I.tuple hq
  obtain ⟨f0,f1,f2,f3,f4,f5⟩:=hf it (by simp)
  have hl:=rv.length
  exact wpAny_pyNext_tuple_end (I.ok.hd hc) st (show s.heap.IsTuple a ag.toArray from p) (by simp; omega) λh' eb=>⟨rfl,I.turned (t':=s.toks) (λb o hb e=>eb b o hb e) f0 f1 f3 f4 f5⟩
 self:=λ_ _ _ _ _ st h=>wpAny_pyIter_tupleiter st h
theorem aA4 (it:Addr) (lo:Int) (n:Nat):Turn P w K tg (Ao lo n) [it] it (λi h=>IsRangeIter h it (lo+(i:Nat)*1) ((n:Int) - (i:Nat)) 1) where
 mem:=by simp
 obj:=λi h st b hb=>by
  have e:b=it:=by simpa using hb
  subst e
  exact ⟨_,st,λv z=>by
   have z':Data.fields _=Data.cell v:=z
   cases z'⟩
 keep:=λi h h' st k=>k it (by simp) _ st
 item:=by
  intro X hP hw hK hc i aa s σ H E I hf st hg
  subst hP hw hK
  obtain ⟨f0,f1,f2,f3,f4,f5⟩:=hf it (by simp)
  have W:=Walks.range (prog:=X.prog) (w:=X.w) (I.ok.hd hc) it lo 1 n
  refine W.item i s _ _ hg st λv h' tk hv n9 kk=>?_
  obtain ⟨t,rfl⟩:=hv
  have I1:Inv X aa σ H { s with heap:=h',toks:=tk }:=I.turned (λb o hb e=>kk b o (by simpa using hb) e) f0 f1 f3 f4 f5
  refine ⟨_,rfl,zZ (s:={ s with heap:=h',toks:=tk }) (n := "range_iterator") n9 rfl rfl (by decide) ⟨.int (lo+i),H,I1,⟨t,?_⟩,⟨rfl,rfl⟩,n9,λb hb=>(hf b hb).1⟩⟩
  rw [Int.mul_one]
 done:=by
  intro X hP hw hK hc i aa s σ H E I hf st hg
  subst hP hw hK
  obtain ⟨f0,f1,f2,f3,f4,f5⟩:=hf it (by simp)
  exact wpAny_pyNext_range_end (I.ok.hd hc) st (by have:n<=i:=hg; omega) λh' eb=>⟨rfl,I.turned (t':=s.toks) (λb o hb e=>eb b o hb e) f0 f1 f3 f4 f5⟩
 self:=λ_ _ _ _ _ st h=>wpAny_pyIter_rangeiter st h
def Lb (K:Rb) (tl:TE):TI:=λσ H R=>tl σ H λx H1=>∃ a,x=.ref a/\(∃ xs,au K H1 a xs)/\R (xa K a) H1
def R8 (K:Rb) (tl:TE):TI:=λσ H R=>tl σ H λx H1=>∃ a,x=.ref a/\(∃ xs,aq K H1 a xs)/\R (An K a) H1
theorem hU {l:Expr} (hl:PE X l tl):PI X tg l (Lb X.K tl):=by
 intro aa s σ H R I h
 refine bh (hl aa s σ H _ I h) λv s1 ay=>?_
 obtain ⟨x,H1,I1,r1,q1⟩:=ay
 obtain ⟨a,e,⟨xs,hq⟩,q⟩:=q1
 subst e
 cases r1
 obtain ⟨ag,rv,p,hz⟩:=I1.list hq
 refine Uk p.isList ?_
 refine ⟨s1.heap.objs.size,[s1.heap.objs.size],_,_,H1,rfl,I1.kept (t':=s1.toks) λb o e=>Qc _ e,aCF a _,⟨_,Qj _ rfl,rfl,rfl⟩,λb hb=>?_,q⟩
 have e:b=s1.heap.objs.size:=by simpa using hb
 subst e
 exact I1.j8 (Qh _) (I1.ax.fresh (Qh _))
theorem oX {l:Expr} (hl:PE X l tl):PI X tg l (R8 X.K tl):=by
 intro aa s σ H R I h
 refine bh (hl aa s σ H _ I h) λv s1 ay=>?_
 obtain ⟨x,H1,I1,r1,q1⟩:=ay
 obtain ⟨a,e,⟨xs,hq⟩,q⟩:=q1
 subst e
 cases r1
 obtain ⟨ag,rv,p,hz⟩:=I1.tuple hq
 refine Ie (show s1.heap.IsTuple a ag.toArray from p) ?_
 refine ⟨s1.heap.objs.size,[s1.heap.objs.size],_,_,H1,rfl,I1.kept (t':=s1.toks) λb o e=>Qc _ e,aA3 a _,⟨_,Qj _ rfl,rfl,rfl⟩,λb hb=>?_,q⟩
 have e:b=s1.heap.objs.size:=by simpa using hb
 subst e
 exact I1.j8 (Qh _) (I1.ax.fresh (Qh _))
theorem aDm {σ:St} {R:It->Hp->Prop} {hi:Int} {t u v:Tok} {tk:Nat} (I:Inv X aa σ H s) (h1:-(2^62)<=lo) (h2:lo < 2^62) (h3:-(2^62)<=hi) (h4:hi < 2^62) (q:R (Ao lo (hi - lo).toNat) H):wpAny (model X.prog X.w) X.A (pyIter (.ref s.heap.objs.size)) (VP X aa σ tg R) E { s with heap:=s.heap.push { cls:=.type "range",data:=.fields #[.int lo t,.int hi u,.int 1 v] },toks:=tk }:=by
 refine wpAny_pyIter_range (IsRange.new ..) (small_one h1 h2 h3 h4) ?_
 have I1:Inv X aa σ H { s with heap:=s.heap.push { cls:=.type "range",data:=.fields #[.int lo t,.int hi u,.int 1 v] },toks:=tk }:=I.kept λb o e=>Qc _ e
 refine ⟨(s.heap.push { cls:=.type "range",data:=.fields #[.int lo t,.int hi u,.int 1 v] }).objs.size,[(s.heap.push { cls:=.type "range",data:=.fields #[.int lo t,.int hi u,.int 1 v] }).objs.size],_,_,H,rfl,
  I1.kept (t':=tk) λb o e=>Qc _ e,aA4 _ lo (hi - lo).toNat,?_,λb hb=>?_,q⟩
 ·have e1:lo+((0:Nat):Int)*1=lo:=by simp
  have e2:(((hi - lo).toNat:Nat):Int) - ((0:Nat):Int)=Builtin.Range.rangeSize lo hi 1:=by rw [rangeSize_one]; split <;> omega
  show IsRangeIter _ _ (lo+((0:Nat):Int)*1) ((((hi - lo).toNat:Nat):Int) - ((0:Nat):Int)) 1
  rw [e1,e2]
  exact Qj _ rfl
 ·have e:b=(s.heap.push { cls:=.type "range",data:=.fields #[.int lo t,.int hi u,.int 1 v] }).objs.size:=by simpa using hb
  subst e
  exact I1.j8 (Qh _) (I1.ax.fresh (Qh _))
def aHF (ta:TA):TI:=λσ H R=>ta σ H λvs H1=>∃ j:Int,vs = [.int j]/\-(2^62)<=j/\j < 2^62/\R (Ao 0 j.toNat) H1
theorem dZ {a:Expr} {ta:TA} {p:Pos} (hg:Gl X "range") (hm:X.mg "range" = none) (ha:PA X [a] ta) (hs:starEach [a] X.env = [(false,eval a X.env)]:=by rfl):PI X tg (.Call (.Name "range" p) [a] [] pos) (aHF ta):=by
 intro aa s σ H R I h
 refine Call_ (mK I hg hm boot_range (PyProof.Rows.callWith_type1 (bh (ha pos aa s σ H _ I h) λus s1 ay=>?_) hs rfl))
 obtain ⟨vs,H1,I1,r1,q1⟩:=ay
 obtain ⟨j,e,q1,q2,q⟩:=q1
 subst e
 cases r1 with
 | cons r rr =>
  cases rr
  obtain ⟨t,rfl⟩:=r
  exact call_range_1 (aDm I1 (by omega) (by omega) q1 q2 (by simpa using q))
def GY (wi:TI) (g:TG) (tb:TS):TS:=λD σ H=>wi σ H λJ H1=>∃ W:Nat->Nat->St->Hp->Prop,(∃ m,W 0 m σ H1)/\∀ i m σ H,W i m σ H ->
 (J.stop i H/\D.nx σ H)∨(J.go i H/\∃ N:St->Hp->Prop,(∀ ak H',N ak H'->∃ m',m' < m/\W (i+1) m' ak H')/\∀ x H',J.pw i H x H'->g x σ H' λaz H2=>tb { D with nx:=N,ct:=N,bk:=D.nx } az H2)
def rB (fp:List Addr) (h:Heap):List (Addr×Obj):=fp.filterMap λb=>(h.get? b).map λo=>(b,o)
theorem oY {b:Addr} (hb:b∈fp) (e:h.get? b=some o):(b,o)∈rB fp h:=Wp.mpr ⟨b,hb,by rw [e]; rfl⟩
theorem wL {p:Addr×Obj} (hp:p∈rB fp h):p.1∈fp/\h.get? p.1=some p.2:=by
 obtain ⟨b,hb,e⟩:=Wp.mp hp
 cases q:h.get? b with
 | none=>rw [q] at e; cases e
 | some o =>
  rw [q] at e
  have e':(b,o)=p:=Option.some.inj e
  subst e'
  exact ⟨hb,q⟩
theorem Inv.pinned {σ:St} (I:Inv X aa σ H s) (hf:∀ b∈fp,sM X aa H b) (ho:∀ b∈fp,∃ o,s.heap.get? b=some o/\∀ v,o.data≠.cell v):Inv X (aa++rB fp s.heap) σ H s :=
 I.h_ λp hp=>(Jg.mp hp).elim (λz=>I.pin p (Jb _ z)) λz=>by
  obtain ⟨hb,e⟩:=wL z
  obtain ⟨f0,f1,f2,_⟩:=hf p.1 hb
  obtain ⟨o,e',d⟩:=ho p.1 hb
  rw [e] at e'; cases e'
  exact ⟨e,f0,f1,f2,d⟩
theorem Inv.ia {pl:List (Addr×Obj)} {σ:St} (I:Inv X (aa++pl) σ H s):Inv X aa σ H s:=I.h_ λp hp=>I.pin p (Jb _ (Js _ hp))
theorem hV {wi:TI} {tb:TS} (hp:PassesOwn (model X.prog X.w) X.A X.env X.xe) (hc:X.calm=true) (hi:PI X tg iter wi) (hg:PG X tg g) (hb:j4 X body tb) (hs:∀ x,foldedSetIterable iter X.env x=pure x:=by intro _; rfl):PS X (.For tg iter body [] pos) (GY wi g tb):=by
 intro aa s σ H D I h
 refine wpAny_For (bh (hi aa s σ H _ I h) λv s1 h1=>bh h1 λIS s2 h2=>?_) hs
 obtain ⟨it,fp,tn,J,H2,e,I2,T,gv,f2,W,⟨m0,w0⟩,turn⟩:=h2
 subst e
 -- what stays true of the iterator's objects through the loop
 have o9:∀ {H':Hp},(∀ b∈fp,H' b=none)->∀ b∈fp,sM X aa H' b:=λhn b hb=>⟨hn b hb,(f2 b hb).2⟩
 refine codeAny_forLoop_any (λn s'=>∃ i ak H',Inv X aa ak H' s'/\tn i s'.heap/\(∀ b∈fp,H' b=none)/\W i n ak H') ?_ m0 ⟨0,σ,H2,I2,gv,λb hb=>(f2 b hb).1,w0⟩
 rintro n s3 ⟨i,qq,H3,I3,xg,QN,w3⟩
 rcases turn i n qq H3 w3 with ⟨stop,qn⟩ | ⟨go,N,hN,step⟩
 ·refine Tt hp (bh (T.done X rfl rfl rfl hc i aa s3 qq H3 X.xe I3 (o9 QN) xg stop) λr s4 ay=>?_)
  obtain ⟨hr,I4⟩:=ay
  subst hr
  exact Tr ⟨qq,H3,I4,qn⟩
 ·refine Tt hp (bh (T.item X rfl rfl rfl hc i aa s3 qq H3 X.xe I3 (o9 QN) xg go) λr s4 ay=>?_)
  obtain ⟨u,hr,h4⟩:=ay
  subst hr
  refine Tt hp (bh h4 λ_ s5 ay=>?_)
  obtain ⟨x,H5,I5,r5,y5,Ck,Gv⟩:=ay
  have I5':=I5.pinned (o9 Gv) (T.obj _ _ Ck)
  refine Tt hp (bh (hg _ s5 qq H5 x u _ I5' r5 (step x H5 y5)) λ_ s6 ay=>?_)
  obtain ⟨Nz,H6,I6,q6⟩:=ay
  refine Tt hp (bh (hb _ s6 Nz H6 _ I6 q6) λf s7 q7=>?_)
  have again:∀ {ua:St} {H7:Hp},Inv X (aa++rB fp s5.heap) ua H7 s7->N ua H7->∃ m,m < n/\∃ i ak H',Inv X aa ak H' s7/\tn i s7.heap/\(∀ b∈fp,H' b=none)/\W i m ak H':=λ{ua H7} I7 n7=>by
   obtain ⟨m',hm,w7⟩:=hN ua H7 n7
   refine ⟨m',hm,i+1,ua,H7,I7.ia,T.keep _ _ _ Ck λb hb o e=>(I7.pin (b,o) (Jb _ (Jb _ (oY hb e)))).1,λb hb=>?_,w7⟩
   obtain ⟨o,e,d⟩:=T.obj _ _ Ck b hb
   exact (I7.pin (b,o) (Jb _ (Jb _ (oY hb e)))).2.1
  cases f with
  | next=>obtain ⟨ua,H7,I7,n7⟩:=q7; exact again I7 n7
  | cont=>obtain ⟨ua,H7,I7,n7⟩:=q7; exact again I7 n7
  | brk=>obtain ⟨ua,H7,I7,q7⟩:=q7; exact ⟨ua,H7,I7.ia,q7⟩
  | ret v=>obtain ⟨x7,ua,H7,I7,r7,q7⟩:=q7; exact ⟨x7,ua,H7,I7.ia,r7,q7⟩
theorem jB {a:Addr} {tb:TS} {D:Ends} {σ:St} (Pv:Nat->St->Hp->Prop) (h0:Pv 0 σ H) (hl:∀ i σ H,i<=xs.length->Pv i σ H->au K H a xs) (hs:∀ i x σ H,xs[i]?=some x->Pv i σ H->g x σ H λaz H2=>tb { D with nx:=Pv (i+1),ct:=Pv (i+1),bk:=D.nx } az H2) (hd:∀ σ H,Pv xs.length σ H->D.nx σ H) :
  ∃ W:Nat->Nat->St->Hp->Prop,(∃ m,W 0 m σ H)/\∀ i m σ H,W i m σ H ->
   ((xa K a).stop i H/\D.nx σ H)∨((xa K a).go i H/\∃ N:St->Hp->Prop,(∀ ak H',N ak H'->∃ m',m' < m/\W (i+1) m' ak H')/\∀ x H',(xa K a).pw i H x H'->g x σ H' λaz H2=>tb { D with nx:=N,ct:=N,bk:=D.nx } az H2):=by
 refine ⟨λi m σ H=>m=xs.length - i/\i<=xs.length/\Pv i σ H,⟨xs.length,by simp,Jt _,h0⟩,?_⟩
 rintro i m σ H ⟨rfl,hi,p⟩
 have q:=hl i σ H hi p
 by_cases bw:i < xs.length
 ·refine .inr ⟨⟨xs,xs[i],q,by simp [bw]⟩,Pv (i+1),λak H' p'=>⟨xs.length - (i+1),by omega,rfl,bw,p'⟩,λx H' y=>?_⟩
  obtain ⟨e,y⟩:=y
  subst e
  exact hs i x σ _ (y xs q) p
 ·have e:i=xs.length:=by omega
  subst e
  exact .inl ⟨⟨xs,q,Qh _⟩,hd σ H p⟩
theorem UM {a:Addr} {tb:TS} {D:Ends} {σ:St} (Pv:Nat->St->Hp->Prop) (h0:Pv 0 σ H) (hl:∀ i σ H,i<=xs.length->Pv i σ H->aq K H a xs) (hs:∀ i x σ H,xs[i]?=some x->Pv i σ H->g x σ H λaz H2=>tb { D with nx:=Pv (i+1),ct:=Pv (i+1),bk:=D.nx } az H2) (hd:∀ σ H,Pv xs.length σ H->D.nx σ H) :
  ∃ W:Nat->Nat->St->Hp->Prop,(∃ m,W 0 m σ H)/\∀ i m σ H,W i m σ H ->
   ((An K a).stop i H/\D.nx σ H)∨((An K a).go i H/\∃ N:St->Hp->Prop,(∀ ak H',N ak H'->∃ m',m' < m/\W (i+1) m' ak H')/\∀ x H',(An K a).pw i H x H'->g x σ H' λaz H2=>tb { D with nx:=N,ct:=N,bk:=D.nx } az H2):=by
 refine ⟨λi m σ H=>m=xs.length - i/\i<=xs.length/\Pv i σ H,⟨xs.length,by simp,Jt _,h0⟩,?_⟩
 rintro i m σ H ⟨rfl,hi,p⟩
 have q:=hl i σ H hi p
 by_cases bw:i < xs.length
 ·refine .inr ⟨⟨xs,xs[i],q,by simp [bw]⟩,Pv (i+1),λak H' p'=>⟨xs.length - (i+1),by omega,rfl,bw,p'⟩,λx H' y=>?_⟩
  obtain ⟨e,y⟩:=y
  subst e
  exact hs i x σ _ (y xs q) p
 ·have e:i=xs.length:=by omega
  subst e
  exact .inl ⟨⟨xs,q,Qh _⟩,hd σ H p⟩
theorem iO {tb:TS} {D:Ends} {σ:St} (Pv:Nat->St->Hp->Prop) (h0:Pv 0 σ H) (hs:∀ i σ H,i < n->Pv i σ H->g (.int (lo+i)) σ H λaz H2=>tb { D with nx:=Pv (i+1),ct:=Pv (i+1),bk:=D.nx } az H2) (hd:∀ σ H,Pv n σ H->D.nx σ H) :
  ∃ W:Nat->Nat->St->Hp->Prop,(∃ m,W 0 m σ H)/\∀ i m σ H,W i m σ H ->
   ((Ao lo n).stop i H/\D.nx σ H)∨((Ao lo n).go i H/\∃ N:St->Hp->Prop,(∀ ak H',N ak H'->∃ m',m' < m/\W (i+1) m' ak H')/\∀ x H',(Ao lo n).pw i H x H'->g x σ H' λaz H2=>tb { D with nx:=N,ct:=N,bk:=D.nx } az H2):=by
 refine ⟨λi m σ H=>m=n - i/\i<=n/\Pv i σ H,⟨n,by simp,Jt _,h0⟩,?_⟩
 rintro i m σ H ⟨rfl,hi,p⟩
 by_cases bw:i < n
 ·refine .inr ⟨bw,Pv (i+1),λak H' p'=>⟨n - (i+1),by omega,rfl,bw,p'⟩,λx H' y=>?_⟩
  obtain ⟨e,y⟩:=y
  subst e y
  exact hs i σ _ bw p
 ·have e:i=n:=by omega
  subst e
  exact .inl ⟨Qh _,hd σ H p⟩
abbrev R2:=V->V->Hp->VK->Prop
end L2
variable {r:R2}
namespace L2
open PySem PySem.Spec PyProof.Rows
def fm (X:Cx) (f:Value->Value->Sem Value) (r:R2):Prop :=
 ∀ (aa:List (Addr×Obj)) (s:Shared) (σ:St) (H:Hp) (x y:V) (v u:Value) (Q:VK),Inv X aa σ H s->bQ x v->bQ y u->r x y H Q ->
  wpAny (model X.prog X.w) X.A (f v u) (EP X aa σ Q) X.xe s
def LK (X:Cx) (f:Value->Sem Value) (r:V->Hp->VK->Prop):Prop :=
 ∀ (aa:List (Addr×Obj)) (s:Shared) (σ:St) (H:Hp) (x:V) (v:Value) (Q:VK),Inv X aa σ H s->bQ x v->r x H Q ->
  wpAny (model X.prog X.w) X.A (f v) (EP X aa σ Q) X.xe s
def eT (X:Cx) (f:Value) (r:List V->Hp->VK->Prop):Prop :=
 ∀ (aa:List (Addr×Obj)) (s:Shared) (σ:St) (H:Hp) (xs:List V) (us:List Value) (Q:VK),Inv X aa σ H s->bH xs us->r xs H Q ->
  wpAny (model X.prog X.w) X.A (call f us) (EP X aa σ Q) X.xe s
def Y! (X:Cx) (r:V->Hp->(Bool->Hp->Prop)->Prop):Prop :=
 ∀ (aa:List (Addr×Obj)) (s:Shared) (σ:St) (H:Hp) (x:V) (v:Value) (Q:Bool->Hp->Prop),Inv X aa σ H s->bQ x v->r x H Q ->
  wpAny (model X.prog X.w) X.A (truthy v) (TP X aa σ Q) X.xe s
def xf (r:R2) (ta tb:TE):TE:=λσ H Q=>ta σ H λx H1=>tb σ H1 λy H2=>r x y H2 Q
def FE (r:V->Hp->VK->Prop) (ta:TE):TE:=λσ H Q=>ta σ H λx H1=>r x H1 Q
def rI (C:Int->Int->Prop) (g:Int->Int->V):R2:=λx y H Q=>∃ i j,x=.int i/\y=.int j/\C i j/\Q (g i j) H
def xj (g:Int->Int->V):R2:=λx y H Q=>∃ i j,x=.int i/\y=.int j/\Q (g i j) H
def rU (g:Int->V):V->Hp->VK->Prop:=λx H Q=>∃ i,x=.int i/\Q (g i) H
section
variable {a b c:Expr} {tc:TE}
theorem K2 (ha:PE X a ta) (hb:PE X b tb) {σ:St} {R:V->V->Hp->Prop} (I:Inv X aa σ H s) (h:ta σ H λx H1=>tb σ H1 λy H2=>R x y H2) {f:Value->Value->Sem Value} (hf:∀ v u s2 x y H2,Inv X aa σ H2 s2->bQ x v->bQ y u->R x y H2->wpAny (model X.prog X.w) X.A (f v u) Q X.xe s2) :
  wpAny (model X.prog X.w) X.A (eval a X.env) (λv cb=>wpAny (model X.prog X.w) X.A (eval b X.env) (λu jf=>wpAny (model X.prog X.w) X.A (f v u) Q X.xe jf) X.xe cb) X.xe s:=by
 refine bh (ha aa s σ H _ I h) λv s1 ay=>?_
 obtain ⟨x,H1,I1,r1,q1⟩:=ay
 refine bh (hb aa s1 σ H1 _ I1 q1) λu s2 ay=>?_
 obtain ⟨y,H2,I2,r2,q2⟩:=ay
 exact hf v u s2 x y H2 I2 r1 r2 q2
theorem aY {op:Operator} (ho:fm X (binaryOp op) r) (ha:PE X a ta) (hb:PE X b tb):PE X (.BinOp a op b pos) (xf r ta tb):=by
 intro aa s σ H Q I h
 exact wpAny_BinOp (K2 ha hb I h λv u s2 x y H2 I2 rx ry q=>ho aa s2 σ H2 x y v u Q I2 rx ry q)
theorem pR {op:UnaryOp} {r:V->Hp->VK->Prop} (ho:LK X (unaryOp op) r) (ha:PE X a ta):PE X (.UnaryOp op a pos) (FE r ta):=by
 intro aa s σ H Q I h
 refine UnaryOp_ (bh (ha aa s σ H _ I h) λv s1 ay=>?_)
 obtain ⟨x,H1,I1,r1,q1⟩:=ay
 exact ho aa s1 σ H1 x v Q I1 r1 q1
theorem FN {f:Value->Value->Sem Value} {C:Int->Int->Prop} {g:Int->Int->Int}
  (rule:∀ (i j:Int) (t u:Tok) (s:Shared) (Q:Value->Shared->Prop) (E:Value->Shared->Prop),C i j->Q (.int (g i j) s.toks) { s with toks:=s.toks+1 }->wpAny (model X.prog X.w) X.A (f (.int i t) (.int j u)) Q E s) :
  fm X f (rI C λi j=>.int (g i j)):=by
 intro aa s σ H x y v u Q I rx ry h
 obtain ⟨i,j,rfl,rfl,hc,q⟩:=h
 obtain ⟨t,rfl⟩:=rx
 obtain ⟨t',rfl⟩:=ry
 exact rule i j t t' s _ _ hc ⟨.int (g i j),H,I.tok _,⟨_,rfl⟩,q⟩
theorem R7 {f:Value->Value->Sem Value} {g:Int->Int->Int}
  (rule:∀ (i j:Int) (t u:Tok) (s:Shared) (Q:Value->Shared->Prop) (E:Value->Shared->Prop),Q (.int (g i j) s.toks) { s with toks:=s.toks+1 }->wpAny (model X.prog X.w) X.A (f (.int i t) (.int j u)) Q E s) :
  fm X f (xj λi j=>.int (g i j)):=by
 intro aa s σ H x y v u Q I rx ry h
 obtain ⟨i,j,rfl,rfl,q⟩:=h
 obtain ⟨t,rfl⟩:=rx
 obtain ⟨t',rfl⟩:=ry
 exact rule i j t t' s _ _ ⟨.int (g i j),H,I.tok _,⟨_,rfl⟩,q⟩
theorem GX {f:Value->Value->Sem Value} {g:Int->Int->Bool}
  (rule:∀ (i j:Int) (t u:Tok) (s:Shared) (Q:Value->Shared->Prop) (E:Value->Shared->Prop),Q (.bool (g i j)) s->wpAny (model X.prog X.w) X.A (f (.int i t) (.int j u)) Q E s) :
  fm X f (xj λi j=>.bl (g i j)):=by
 intro aa s σ H x y v u Q I rx ry h
 obtain ⟨i,j,rfl,rfl,q⟩:=h
 obtain ⟨t,rfl⟩:=rx
 obtain ⟨t',rfl⟩:=ry
 exact rule i j t t' s _ _ ⟨.bl (g i j),H,I,rfl,q⟩
def X? (i j:Int):Prop:=0<=j/\j<=1000000/\i.natAbs < 2^64
def K1 (i j:Int):Prop:=(-(2^64) < i/\i < 2^64)∨(-(2^64) < j/\j < 2^64)
theorem K1.ok {i j:Int} (h:K1 i j):IntMulOk i j:=by
 rcases h with ⟨h1,h2⟩ | ⟨h1,h2⟩
 ·exact .of_left (intBits_le_64 h1 h2)
 ·exact .of_right (intBits_le_64 h1 h2)
theorem eD:fm X (binaryOp .Add) (xj λi j=>.int (i+j)):=R7 λ_ _ _ _ _ _ _ q=>add_int q
theorem fP:fm X (binaryOp .Sub) (xj λi j=>.int (i - j)):=R7 λ_ _ _ _ _ _ _ q=>sub_int q
theorem hX:fm X (binaryOp .Mult) (rI K1 λi j=>.int (i*j)):=FN λ_ _ _ _ _ _ _ hc q=>mul_int q hc.ok
theorem oZ:fm X (binaryOp .Mod) (rI (λ_ j=>0 < j) λi j=>.int (i % j)):=FN λi j _ _ _ _ _ hc q=>by
 have h1:(0:Int) < j:=hc
 exact mod_int' (by omega) (by rw [Int.fmod_eq_emod_of_nonneg i (by omega)]; exact q)
theorem xT:fm X (binaryOp .Pow) (rI X? λi j=>.int (i^j.toNat)):=FN λ_ _ _ _ _ _ _ hc q=>pow_int_small hc.1 hc.2.1 hc.2.2 q
theorem XE {f:Value->Sem Value} {g:Int->Int}
  (rule:∀ (i:Int) (t:Tok) (s:Shared) (Q:Value->Shared->Prop) (E:Value->Shared->Prop),Q (.int (g i) s.toks) { s with toks:=s.toks+1 }->wpAny (model X.prog X.w) X.A (f (.int i t)) Q E s) :
  LK X f (rU λi=>.int (g i)):=by
 intro aa s σ H x v Q I rx h
 obtain ⟨i,rfl,q⟩:=h
 obtain ⟨t,rfl⟩:=rx
 exact rule i t s _ _ ⟨.int (g i),H,I.tok _,⟨_,rfl⟩,q⟩
theorem lP:LK X (unaryOp .USub) (rU λi=>.int (-i)):=XE λ_ _ _ _ _ q=>neg_int q
def K0:V->V->Bool
 | .br,.br=>true | .br,.int _=>true | .int _,.br=>true | .br,.bl _=>true | .bl _,.br=>true | .br,.str _=>true | .str _,.br=>true
 | .int _,.int _=>true | .bl _,.bl _=>true | .str _,.str _=>true | .o7 _,.o7 _=>true
 | .int _,.str _=>true | .str _,.int _=>true | .bl _,.str _=>true | .str _,.bl _=>true
 | _,_=>false
def XZ:R2:=λx y H Q=>K0 x y=true/\Q (.bl (decide (x=y))) H
def XY:R2:=λx y H Q=>K0 x y=true/\Q (.bl (!decide (x=y))) H
theorem UL {i j:Int}:decide (V.int i=V.int j)=(i==j):=by
 rw [Xl]
 simp
theorem SW {i j:Bool}:decide (V.bl i=V.bl j)=(i==j):=by
 rw [Xl]
 simp
theorem UK {i j:Str}:decide (V.str i=V.str j)=(i==j):=by
 rw [Xl]
 simp
theorem UJ {i j:Array UInt8}:decide (V.o7 i=V.o7 j)=(i.toList==j.toList):=by
 rw [Xl]
 cases i
 cases j
 simp
theorem cH {σ:St} {Q:VK} {k k':Bool} (I:Inv X aa σ H s) (q:Q (.bl k) H) (e:k=k'):EP X aa σ Q (.bool k') s:=by
 subst e
 exact ⟨.bl k,H,I,rfl,q⟩
theorem dX:fm X (compareOp .Eq) XZ:=by
 intro aa s σ H x y v u Q I rx ry h
 obtain ⟨hs,q⟩:=h
 cases x with
 | br =>
  cases rx
  cases y with
  | br=>cases ry; exact Ras (cH I q (by simp))
  | bl j=>cases ry; exact Rau (cH I q (by simp))
  | int j=>obtain ⟨t',rfl⟩:=ry; exact Rav (cH I q (by simp))
  | str j=>obtain ⟨t',rfl⟩:=ry; exact Rax (cH I q (by simp))
  | _=>exact absurd (show false=true from hs) Qu
 | bl i =>
  cases rx
  cases y with
  | br=>cases ry; exact Ray (cH I q (by simp))
  | bl j=>cases ry; exact eq_bool (cH I q SW)
  | str j=>obtain ⟨t',rfl⟩:=ry; exact Raj (cH I q (by simp))
  | _=>exact absurd (show false=true from hs) Qu
 | int i =>
  obtain ⟨t,rfl⟩:=rx
  cases y with
  | br=>cases ry; exact Raz (cH I q (by simp))
  | int j=>obtain ⟨t',rfl⟩:=ry; exact eq_int (cH I q UL)
  | str j=>obtain ⟨t',rfl⟩:=ry; exact Rak (cH I q (by simp))
  | _=>exact absurd (show false=true from hs) Qu
 | str i =>
  obtain ⟨t,rfl⟩:=rx
  cases y with
  | br=>cases ry; exact RaA (cH I q (by simp))
  | bl j=>cases ry; exact Ral (cH I q (by simp))
  | int j=>obtain ⟨t',rfl⟩:=ry; exact Ram (cH I q (by simp))
  | str j=>obtain ⟨t',rfl⟩:=ry; exact eq_str (cH I q UK)
  | _=>exact absurd (show false=true from hs) Qu
 | o7 i =>
  obtain ⟨t,rfl⟩:=rx
  cases y with
  | o7 j=>obtain ⟨t',rfl⟩:=ry; exact PySem.W.eq_bytes (cH I q UJ)
  | _=>exact absurd (show false=true from hs) Qu
 | _=>cases y <;> exact absurd (show false=true from hs) Qu
theorem oJ:fm X (compareOp .NotEq) XY:=by
 intro aa s σ H x y v u Q I rx ry h
 obtain ⟨hs,q⟩:=h
 cases x with
 | br =>
  cases rx
  cases y with
  | br=>cases ry; exact RaB (cH I q (by simp))
  | bl j=>cases ry; exact RaC (cH I q (by simp))
  | int j=>obtain ⟨t',rfl⟩:=ry; exact RaD (cH I q (by simp))
  | str j=>obtain ⟨t',rfl⟩:=ry; exact RaE (cH I q (by simp))
  | _=>exact absurd (show false=true from hs) Qu
 | bl i =>
  cases rx
  cases y with
  | br=>cases ry; exact RaF (cH I q (by simp))
  | bl j=>cases ry; exact ne_bool (cH I q (congrArg not SW))
  | str j=>obtain ⟨t',rfl⟩:=ry; exact Ran (cH I q (by simp))
  | _=>exact absurd (show false=true from hs) Qu
 | int i =>
  obtain ⟨t,rfl⟩:=rx
  cases y with
  | br=>cases ry; exact RaG (cH I q (by simp))
  | int j=>obtain ⟨t',rfl⟩:=ry; exact ne_int (cH I q (congrArg not UL))
  | str j=>obtain ⟨t',rfl⟩:=ry; exact Rao (cH I q (by simp))
  | _=>exact absurd (show false=true from hs) Qu
 | str i =>
  obtain ⟨t,rfl⟩:=rx
  cases y with
  | br=>cases ry; exact RaH (cH I q (by simp))
  | bl j=>cases ry; exact Rap (cH I q (by simp))
  | int j=>obtain ⟨t',rfl⟩:=ry; exact Raq (cH I q (by simp))
  | str j=>obtain ⟨t',rfl⟩:=ry; exact ne_str (cH I q (congrArg not UK))
  | _=>exact absurd (show false=true from hs) Qu
 | o7 i =>
  obtain ⟨t,rfl⟩:=rx
  cases y with
  | o7 j=>obtain ⟨t',rfl⟩:=ry; exact PySem.W.ne_bytes (cH I q (congrArg not UJ))
  | _=>exact absurd (show false=true from hs) Qu
 | _=>cases y <;> exact absurd (show false=true from hs) Qu
theorem wM:fm X (compareOp .Lt) (xj λi j=>.bl (decide (i < j))):=GX λ_ _ _ _ _ _ _ q=>lt_int q
theorem La:fm X (compareOp .LtE) (xj λi j=>.bl (decide (i<=j))):=GX λ_ _ _ _ _ _ _ q=>le_int q
theorem mM:fm X (compareOp .Gt) (xj λi j=>.bl (decide (j < i))):=GX λ_ _ _ _ _ _ _ q=>gt_int q
theorem G7:fm X (compareOp .GtE) (xj λi j=>.bl (decide (j<=i))):=GX λ_ _ _ _ _ _ _ q=>ge_int q
theorem SV:fm X (compareOp .Is) (λx y H Q=>y=.br/\Q (.bl (decide (x=.br))) H):=by
 intro aa s σ H x y v u Q I rx ry h
 obtain ⟨rfl,q⟩:=h
 cases ry
 refine is_none_gen (cH I q ?_)
 cases x <;> first
  | (cases rx; rfl)
  | (obtain ⟨t,rfl⟩:=rx; rfl)
theorem aU (b:Expr) (h:op≠.In:=by decide) (h2:op≠.NotIn:=by decide):behindInMarks op b=false:=by
 have e1:(op==CmpOp.In)=false:=by cases op <;> first | rfl | exact absurd rfl h
 have e2:(op==CmpOp.NotIn)=false:=by cases op <;> first | rfl | exact absurd rfl h2
 cases b <;> simp [behindInMarks,e1,e2]
theorem gN (ho:fm X (compareOp op) r) (ha:PE X a ta) (hb:PE X b tb) (hm:behindInMarks op b=false):PE X (.Compare a [op] [b] pos) (xf r ta tb):=by
 intro aa s σ H Q I h
 exact wpAny_Compare1 (K2 ha hb I h λv u s2 x y H2 I2 rx ry q=>ho aa s2 σ H2 x y v u Q I2 rx ry q) hm
def aHH (t:TE):TT:=λσ H Q=>t σ H λx H'=>∃ k,x=.bl k/\Q k H'
theorem aP (ho:fm X (compareOp op) r) (ha:PE X a ta) (hb:PE X b tb) (hm:behindInMarks op b=false):PT X (.Compare a [op] [b] pos) (aHH (xf r ta tb)):=by
 intro aa s σ H Q I h
 refine Mw (bh (ha aa s σ H _ I h) λv s1 ⟨x,H1,I1,r1,q1⟩=>bh (hb aa s1 σ H1 _ I1 q1) λu s2 ⟨y,H2,I2,r2,q2⟩ =>
  bh (ho aa s2 σ H2 x y v u _ I2 r1 r2 q2) λc s3 ⟨z,H3,I3,r3,k,e,q3⟩=>?_) hm
 subst e
 cases r3
 exact Td ⟨H3,I3,q3⟩
def aGP (r r':R2) (ta tb tc:TE):TE:=λσ H Q=>ta σ H λx H1=>tb σ H1 λy H2=>r x y H2 λz H3=>∃ k,z=.bl k /\
 (if k=true then tc σ H3 λw' H4=>r' y w' H4 Q else Q (.bl false) H3)
theorem aDq {HU:CmpOp} {r':R2} (ho:fm X (compareOp op) r) (ki:fm X (compareOp HU) r') (ha:PE X a ta) (hb:PE X b tb) (hc:PE X c tc) (hm:lastMarks [op,HU] [b,c]=false:=by with_unfolding_all rfl):PE X (.Compare a [op,HU] [b,c] pos) (aGP r r' ta tb tc):=by
 intro aa s σ H Q I h
 refine Compare_chain (bh (ha aa s σ H _ I h) λv s1 ⟨x,H1,I1,r1,q1⟩=>chain_link (bh (hb aa s1 σ H1 _ I1 q1) λu s2 ⟨y,H2,I2,r2,q2⟩ =>
  bh (ho aa s2 σ H2 x y v u _ I2 r1 r2 q2) λd s3 ⟨z,H3,I3,r3,k,e,q3⟩=>?_)) hm
 subst e
 cases r3
 refine Td ?_
 cases k with
 | false=>exact ite_ff ⟨.bl false,H3,I3,rfl,q3⟩
 | true=>exact ite_tt (chain_last (bh (hc aa s3 σ H3 _ I3 q3) λw' s4 ⟨z',H4,I4,r4,q4⟩=>ki aa s4 σ H4 y z' u w' Q I4 r2 r4 q4))
def R1 (K:Rb) (x:V) (H:Hp) (k:Bool):Prop :=
 match x with
 | .br=>k=false
 | .bl b=>k=b
 | .int i=>k=(i !=0)
 | .str y=>y.length<=sizeLine/\k=((y.length:Int) !=0)
 | .o7 y=>y.size<=sizeLine/\k=((y.size:Int) !=0)
 | .ref p=>(∃ xs,au K H p xs/\k=!xs.isEmpty)∨(∃ xs,aq K H p xs/\k=!xs.isEmpty)∨∃ kvs,H p=some (.dK kvs)/\k=!kvs.isEmpty
 | _=>False
theorem aA5 {kvs:List (κ×V)} {vs:List (κ×Value)} (r:KV kvs vs):(!vs.isEmpty)=!kvs.isEmpty:=by
 cases r <;> rfl
theorem tO (r:bH xs ag):(!ag.toArray.isEmpty)=!xs.isEmpty:=by
 cases r <;> simp
theorem tP:(sizeLine:Nat) < 2^63:=by rw [Rf]; decide
theorem aGQ:Y! X (λx H Q=>∃ k,R1 X.K x H k/\Q k H):=by
 intro aa s σ H x v Q I rx h
 obtain ⟨k,e,q⟩:=h
 have hl:=tP
 have hs:sizeLine=16777216:=Rf
 cases x with
 | br =>
  cases rx
  have e':k=false:=e
  subst e'
  exact truthy_none ⟨H,I,q⟩
 | bl b =>
  cases rx
  have e':k=b:=e
  subst e'
  exact Td ⟨H,I,q⟩
 | int i =>
  obtain ⟨t,rfl⟩:=rx
  have e':k=(i !=0):=e
  subst e'
  exact PySem.P.truthy_int ⟨H,I,q⟩
 | str y =>
  obtain ⟨t,rfl⟩:=rx
  obtain ⟨hy,e'⟩:y.length<=sizeLine/\k=((y.length:Int) !=0):=e
  subst e'
  exact PySem.P.truthy_str (by omega) ⟨H,I.tok _,q⟩
 | o7 y =>
  obtain ⟨t,rfl⟩:=rx
  obtain ⟨hy,e'⟩:y.size<=sizeLine/\k=((y.size:Int) !=0):=e
  subst e'
  exact PySem.W.truthy_bytes (by omega) ⟨H,I.tok _,q⟩
 | ref p =>
  cases rx
  have e':(∃ xs,au X.K H p xs/\k=!xs.isEmpty)∨(∃ xs,aq X.K H p xs/\k=!xs.isEmpty)∨∃ kvs,H p=some (.dK kvs)/\k=!kvs.isEmpty:=e
  rcases e' with ⟨xs,hx,e'⟩ | ⟨xs,hx,e'⟩ | ⟨kvs,hx,e'⟩
  ·subst e'
   obtain ⟨ag,r,pl,hz⟩:=I.list hx
   have hlen:=r.length
   exact wpAny_truthy_list pl.isList (by simp only [Qm]; omega) ⟨H,I.tok _,by rw [tO r]; exact q⟩
  ·subst e'
   obtain ⟨ag,r,pl,hz⟩:=I.tuple hx
   have hlen:=r.length
   exact truthy_tuple pl (by simp only [Qm]; omega) ⟨H,I.tok _,by rw [tO r]; exact q⟩
  ·subst e'
   obtain ⟨hz,hS,vs,r,m⟩:kvs.length<=sizeLine/\(p==sysModules)=false/\∃ vs,KV kvs vs/\s.heap.DictOf (bF X.prog X.w) p vs:=I.ax p _ hx
   have hlen:kvs.length=vs.length:=Paired.length r
   exact wpAny_truthy_dict hS m (by omega) ⟨H,I.tok _,by rw [aA5 r]; exact q⟩
 | _=>exact (show False from e).elim
theorem aDr (ha:PE X a ta) (he:∀ whole,isTrue a X.env whole=(do let v<-whole; standAt a.pos; holding [v] (truthy v))) :
  PT X a (λσ H Q=>ta σ H λx H'=>∃ k,R1 X.K x H' k/\Q k H'):=by
 intro aa s σ H Q I h
 refine isTrue_plain (bh (ha aa s σ H _ I h) λv s1 ay=>?_) (he _)
 obtain ⟨x,H1,I1,r1,q1⟩:=ay
 exact aGQ aa s1 σ H1 x v Q I1 r1 q1
theorem iA {x:V} (r:bH [x] us):∃ u,us = [u]/\bQ x u:=by
 cases r with
 | cons r1 r2=>cases r2; exact ⟨_,rfl,r1⟩
theorem rY {x:V} (r:bH [x,y] us):∃ u w',us = [u,w']/\bQ x u/\bQ y w':=by
 cases r with
 | cons r1 r2 =>
  cases r2 with
  | cons r3 r4=>cases r4; exact ⟨_,_,rfl,r1,r3⟩
theorem wN:eT X (.type "int") (λxs H Q=>(∃ i,xs = [.int i]/\Q (.int i) H)∨∃ k,xs = [.bl k]/\Q (.int (if k then 1 else 0)) H):=by
 intro aa s σ H xs us Q I r h
 rcases h with ⟨i,rfl,q⟩ | ⟨k,rfl,q⟩
 ·obtain ⟨u,rfl,t,rfl⟩:=iA r
  exact call_int_int ⟨.int i,H,I,⟨_,rfl⟩,q⟩
 ·obtain ⟨u,rfl,r1⟩:=iA r
  cases r1
  exact call_int_bool ⟨.int (if k then 1 else 0),H,I.tok _,⟨_,rfl⟩,q⟩
end
structure pf (h:Heap) (x dx C:Addr) (mA:Str->Option Value):Prop where
 obj:h.get? x=some (Tj C dx)
 ns:h.Ns1 dx mA
 ne:dx≠x
theorem aCG (n:h.Ns1 dx mA):∃ od,h.get? dx=some od/\∀ name,Vb name od=some (mA name):=by
 obtain ⟨o,es,ep,ho,hd,hk,_,hm⟩:=n
 refine ⟨o,ho,λname=>?_⟩
 have e:=hm name
 unfold nsFind findBy at e
 rw [<- Array.find?_toList] at e
 unfold Vb
 rw [hd]
 dsimp only
 split
 ·rename_i y q
  rw [q] at e
  exact congrArg some e
 ·rename_i q
  rw [q] at e
  have a:es.toList.any (·.refKey)=false:=by
   rw [List.any_eq_false]
   intro y hy
   obtain ⟨z,t,fw⟩:=hk y (Array.mem_toList_iff.mp hy)
   simp [DictEntry.refKey,fw]
  have a':¬ es.toList.any (·.refKey)=true:=by rw [a]; exact Qu
  rw [if_neg a']
  exact congrArg some e
theorem pf.look {x:Addr} (I:pf h x dx C mA):∃ od,PySem.W.InstAt h x (Tj C dx) C (some od)/\∀ name,Vb name od=some (mA name) :=
 let ⟨od,ho,hl⟩:=aCG I.ns
 ⟨od,⟨I.obj,rfl,rfl,ho⟩,hl⟩
section
variable {x:Addr} {v:Value}
theorem aE4 {expr:Bool} (X:K.In s.heap) (I:pf s.heap x dx C mA) (hg:Uh K C name=true) (hh:Ut K C=true) (ha:Rm K (.ref C) name=some none) (hv:mA name=some v) (F3:Mp v=true) (h:Q v { s with toks:=s.toks+1 }) :
  wpAny (model prog w) A (getAttr (.ref x) name expr) Q E s:=by
 obtain ⟨od,J,hl⟩:=I.look
 exact PySem.W.get_value X J (Ve hg).1 (PySem.W.findObj_own hh ha rfl (by rw [hl,hv])) F3 h
theorem aDs {Q:Value×List Value->Shared->Prop} (X:K.In s.heap) (I:pf s.heap x dx C mA) (hg:Uh K C name=true) (hf:Rm K (.ref C) name=some (some (.ref f))) (ht:Uy K (.ref f)=true) (hv:mA name=none) (h:Q (.ref f,[.ref x]) s) :
  wpAny (model prog w) A (getMethod (.ref x) name pl) Q E s:=by
 obtain ⟨od,J,hl⟩:=I.look
 exact PySem.W.method_fn X J (Ve hg).1 (Ve hg).2 hf (beq_iff_eq.mp ht) (by show (Vb name od).map (·.isSome)=some false; rw [hl,hv]; rfl) h
theorem aE5 {ns:List Str} {Q:Unit->Shared->Prop} (X:K.In s.heap) (I:pf s.heap x dx C mA)
  (hs:Rm K (.ref C) "__setattr__" = some (some (.builtin "object.__setattr__"))) (hp:Vn K C=true) (ht:Vs K C name=some none) (hh:Ut K C=true)
  (hw:PySem.Within mA ns) (hsz:ns.length<=sizeLine)
  (h:∀ h',pf h' x dx C (λy=>if y=name then some v else mA y)->Heap.SameBut dx s.heap h'->Q () { s with heap:=h',toks:=s.toks+2 }) :
  wpAny (model prog w) A (setAttr (.ref x) name v) Q E s:=by
 obtain ⟨od,J,hl⟩:=I.look
 refine PySem.W.set_plain X J hs (PySem.W.osa_open (s:={ s with toks:=s.toks+1 }) (r:=none) X J hp ht λb=>?_)
 obtain ⟨cd,hc,A_⟩:=PySem.W.any_some hh
 have hx:s.heap.get? x=some ⟨.ref C,some dx,.plain,#[]⟩:=I.obj
 refine Ra (Rc (Ra (Ra (wpAny_loadPart hx (Ra (Rar (s:={ s with toks:=s.toks+1 }) (PySem.W.looks_clsIn X hc) ?_))))))
 rw [A_]
 refine Rc (a:=some dx) (Ra (Rc (Ra ?_)))
 refine wpAny_nsSet1 (s:={ s with toks:=s.toks+1 }) I.ns λh' F9 zo=>?_
 obtain ⟨oD,esD,epD,JK,JZ,Θ⟩:=F9.count (RaI name v hw)
 refine Ra (wpAny_lookBehind JK (by rw [JZ]; exact pastItsLine_dict (Ja Θ (by rw [Jo]; omega))) ?_)
 exact Rc (h _ ⟨(zo.2 _ (Ne.symm I.ne)).trans I.obj,F9,I.ne⟩ zo)
theorem U8 {vs:List Value} (X:K.In s.heap) (hm:Vt K C=true) (hi:Rm K (.ref C) "__init__" = some (some (.ref f))) (hf:PySem.W.typeIn K (.ref f)=some (.type "function")) (h:codeAny (model prog w) (A.under (.builtin "type.__call__" ⟨.ref C::vs,kw⟩)) (.call (.ref f) ⟨.ref (s.heap.objs.size+1)::vs,kw⟩) (PySem.W.InitBack (s.heap.objs.size+1) R)
   { s with heap:=(s.heap.push Te).push (Tj C s.heap.objs.size) }) :
  codeAny (model prog w) A (.call (.ref C) ⟨vs,kw⟩) R s:=by
 obtain ⟨hh,g,d,t,os⟩:=s
 exact PySem.W.make_core (PySem.W.makes_of X hm) (PySem.W.looks_findIn X hi) (λself=>PySem.W.bind_fn X self hf) (.inl rfl) h
end
def mO (f:Str) (v:V):List (Str×V)->List (Str×V)
 | []=>[(f,v)]
 | (g,x)::r=>if g=f then (g,v)::r else (g,x)::mO f v r
theorem rZ (f g:Str) (v:V):∀ fs:List (Str×V),(mO f v fs).lookup g=if g=f then some v else fs.lookup g
 | []=>by
  show List.lookup g [(f,v)]=_
  by_cases h:g=f
  ·have hb:(g==f)=true:=beq_iff_eq.mpr h
   simp only [List.lookup,hb,if_pos h]
  ·have hb:(g==f)=false:=beq_eq_false_iff_ne.mpr h
   simp only [List.lookup,hb,if_neg h]
 | (k,x)::r=>by
  have ih:=rZ f g v r
  rw [show mO f v ((k,x)::r)=(if k=f then (k,v)::r else (k,x)::mO f v r) from rfl]
  by_cases hk:k=f
  ·rw [if_pos hk]
   by_cases h:g=k
   ·have hb:(g==k)=true:=beq_iff_eq.mpr h
    simp only [List.lookup,hb,if_pos (h.trans hk)]
   ·have hb:(g==k)=false:=beq_eq_false_iff_ne.mpr h
    simp only [List.lookup,hb,if_neg (λe:g=f=>h (e.trans hk.symm))]
  ·rw [if_neg hk]
   by_cases h:g=k
   ·have hb:(g==k)=true:=beq_iff_eq.mpr h
    simp only [List.lookup,hb,if_neg (λe:g=f=>hk (h.symm.trans e))]
   ·have hb:(g==k)=false:=beq_eq_false_iff_ne.mpr h
    simp only [List.lookup,hb]
    exact ih
theorem rC (f:Str) (v:V):∀ fs:List (Str×V),f∈(mO f v fs).map (·.1)/\∀ g,g∈fs.map (·.1)->g∈(mO f v fs).map (·.1)
 | []=>⟨by simp [mO],λg h=>by simp at h⟩
 | (k,x)::r=>by
  obtain ⟨i1,i2⟩:=rC f v r
  rw [show mO f v ((k,x)::r)=(if k=f then (k,v)::r else (k,x)::mO f v r) from rfl]
  by_cases hk:k=f
  ·rw [if_pos hk]
   subst hk
   exact ⟨by simp,λg h=>by simpa using h⟩
  ·rw [if_neg hk]
   refine ⟨?_,λg h=>?_⟩
   ·rw [Qz]
    exact Qk _ i1
   ·rw [Qz] at h ⊢
    rcases Ql.mp h with e | e
    ·exact Ql.mpr (.inl e)
    ·exact Qk _ (i2 g e)
theorem sA (f:Str) (v:V):∀ fs:List (Str×V),(mO f v fs).length<=fs.length+1
 | []=>by simp [mO]
 | (k,x)::r=>by
  have ih:=sA f v r
  rw [show mO f v ((k,x)::r)=(if k=f then (k,v)::r else (k,x)::mO f v r) from rfl]
  by_cases hk:k=f
  ·rw [if_pos hk,Jo,Jo]; omega
  ·rw [if_neg hk,Jo,Jo]; omega
theorem mI.some_of {o:Option Value} (r:mI (some v) o):∃ u,o=some u/\bQ v u:=by
 cases o with
 | none=>exact (show False from r).elim
 | some u=>exact ⟨u,rfl,r⟩
theorem mI.none_of {o:Option Value} (r:mI none o):o=none:=by
 cases o with
 | none=>rfl
 | some u=>exact (show False from r).elim
theorem aCH (r:bQ v u):Mp u=true:=by
 cases v with
 | br=>cases (show u=Value.none from r); rfl
 | bl b=>cases (show u=Value.bool b from r); rfl
 | int i=>obtain ⟨t,e⟩:=(show ∃ t,u=Value.int i t from r); cases e; rfl
 | str x=>obtain ⟨t,e⟩:=(show ∃ t,u=Value.str x t from r); cases e; rfl
 | o7 b=>obtain ⟨t,e⟩:=(show ∃ t,u=Value.bytes b t from r); cases e; rfl
 | wx b=>obtain ⟨t,e⟩:=(show ∃ t,u=Value.float b t from r); cases e; rfl
 | ref a=>cases (show u=Value.ref a from r); rfl
 | ty n=>cases (show u=Value.type n from r); rfl
section
variable {a:Addr} {fs CJ:List (Str×V)}
theorem xU (ax:gi P w H h) (e:H a=some (.ins C dx fs)):∃ mA,pf h a dx C mA/\(∀ f,mI (fs.lookup f) (mA f))/\PySem.Within mA (fs.map (·.1))/\fs.length<=1000/\H dx=some (.own a):=by
 obtain ⟨d,z,ne,ob,mA,n,r,q⟩:=(show bR P w H h a (.ins C dx fs) from ax a _ e)
 exact ⟨mA,⟨ob,n,ne⟩,r,q,z,d⟩
end
structure u6 (K:Rb) (C:Addr):Prop where
 pg:Uh K C Str.empty=true
 hd:Ut K C=true
 po:Vn K C=true
 sa:Rm K (.ref C) "__setattr__" = some (some (.builtin "object.__setattr__"))
theorem u6.get (c:u6 K C) (f:Str):Uh K C f=true:=c.pg
def iP (K:Rb) (C:Addr) (f:Str):Prop:=Rm K (.ref C) f=some none
theorem iP.Fj {f:Str} (n:iP K C f):Vs K C f=some none:=by
 unfold Vs
 rw [show Rm K (.ref C) f=some none from n]
 rfl
structure Meth (K:Rb) (C:Addr) (m:Str) (f:Addr):Prop where
 at_:Rm K (.ref C) m=some (some (.ref f))
 fn:Uy K (.ref f)=true
 kp:Tc K (.ref f)=true
section
variable {σ:St} {a:Addr} {fs:List (Str×V)} {f:Str}
theorem tQ {b:Bool} (I:Inv X aa σ H s) (e:H a=some (.ins C dx fs)) (c:u6 X.K C) (n:iP X.K C f) (l:fs.lookup f=some v) (h:∀ u s',Inv X aa σ H s'->bQ v u->Q u s'):wpAny (model X.prog X.w) A (getAttr (.ref a) f b) Q E s:=by
 obtain ⟨mA,O,r,_,_,_⟩:=xU I.ax e
 obtain ⟨u,hu,ru⟩:=mI.some_of (v:=v) (o:=mA f) (by rw [<- l]; exact r f)
 exact aE4 I.i_ O (c.get f) c.hd n hu (aCH ru) (h u _ (I.tok _) ru)
theorem tR {m:Str} {g:Addr} {Q:Value×List Value->Shared->Prop} (I:Inv X aa σ H s) (e:H a=some (.ins C dx fs)) (c:u6 X.K C) (k:Meth X.K C m g) (l:fs.lookup m=none) (h:Q (.ref g,[.ref a]) s):wpAny (model X.prog X.w) A (getMethod (.ref a) m pl) Q E s:=by
 obtain ⟨mA,O,r,_,_,_⟩:=xU I.ax e
 have hn:mA m=none:=mI.none_of (by rw [<- l]; exact r m)
 exact aDs I.i_ O (c.get m) k.at_ k.fn hn h
theorem tT {Q:Unit->Shared->Prop} (I:Inv X aa σ H s) (e:H a=some (.ins C dx fs)) (c:u6 X.K C) (n:iP X.K C f) (hl:fs.length < 1000) (ry:bQ y u) (h:∀ s',Inv X aa σ (upd H a (.ins C dx (mO f y fs))) s'->Q () s'):wpAny (model X.prog X.w) A (setAttr (.ref a) f u) Q E s:=by
 obtain ⟨mA,O,r,wi,_,ho⟩:=xU I.ax e
 have hz:(fs.map (·.1)).length<=sizeLine:=by rw [Qd,Rf]; omega
 refine aE5 I.i_ O c.sa c.po n.Fj c.hd wi hz λh' O' sb=>h _ ?_
 have hd:∃ o,h'.get? dx=some o:=let ⟨o,_,_,e',_⟩:=O'.ns; ⟨o,e'⟩
 refine I.write (x:=a) (e:=dx) (by rw [e]; exact True.intro) (.inr ho) (λb q hb z=>(sb.2 b hb).trans z) hd ?_
 refine ⟨by rw [aF O.ne]; exact ho,?_,O.ne,O'.obj,_,O'.ns,λg=>?_,λg hg=>?_⟩
 ·have:=sA f y fs; omega
 ·show mI ((mO f y fs).lookup g) (if g=f then some u else mA g)
  rw [rZ]
  by_cases q:g=f
  ·rw [if_pos q,if_pos q]; exact ry
  ·rw [if_neg q,if_neg q]; exact r g
 ·by_cases q:g=f
  ·rw [q]; exact (rC f y fs).1
  ·refine (rC f y fs).2 g (wi g λz=>hg ?_)
   show (if g=f then some u else mA g)=none
   rw [if_neg q]; exact z
theorem Inv.made (I:Inv X aa σ H s):Inv X aa σ (upd (upd H s.heap.objs.size (.own (s.heap.objs.size+1))) (s.heap.objs.size+1) (.ins C s.heap.objs.size []))
  { s with heap:=(s.heap.push Te).push (Tj C s.heap.objs.size) }:=by
 have e1:(s.heap.push Te).get? s.heap.objs.size=some Te:=Qj s.heap rfl
 have e2:((s.heap.push Te).push (Tj C s.heap.objs.size)).get? (s.heap.objs.size+1)=some (Tj C s.heap.objs.size):=by
  have:=Qj (s.heap.push Te) (o:=Tj C s.heap.objs.size) rfl
  rwa [Jm] at this
 have e3:(s.heap.push Te).Ns s.heap.objs.size (λ_=>none):=⟨Te,#[],_,e1,rfl,(λe he=>absurd he (by simp)),λ_=>rfl⟩
 have I1:=I.laid (a:=s.heap.objs.size) (o:=.own (s.heap.objs.size+1)) (h':=s.heap.push Te) (t':=s.toks) (λb u q=>Qc _ q) (Qh _) ⟨_,e1⟩
 refine I1.laid (a:=s.heap.objs.size+1) (o:=.ins C s.heap.objs.size []) (t':=s.toks) (λb u q=>Qc _ q) (Zt (Jm _ _)) ?_
 have ne:s.heap.objs.size≠s.heap.objs.size+1:=Qy (Xn _)
 refine ⟨by rw [aF ne,aB],Jt _,ne,e2,λ_=>none,(Heap.Ns1.of_empty e3).at λo q=>Qc _ q,λ_=>True.intro,λy hy=>absurd rfl hy⟩
theorem aE6 {env:Env} {f:Str} (hb:attributeBase e f env (eval e env)=eval e env) (h:wpAny (model prog w) A (eval e env) (λo cb=>wpAny (model prog w) A (getAttr o f true) Q E cb) E s):wpAny (model prog w) A (eval (.Attribute e f pos) env) Q E s :=
 Attribute_any_ h (by rw [arm_eval_Attribute,hb])
end
def R0 (K:Rb) (ta:TE) (f:Str):TE:=λσ H Q=>ta σ H λx H1=>∃ a C dx fs v,x=.ref a/\H1 a=some (.ins C dx fs)/\u6 K C/\iP K C f/\fs.lookup f=some v/\Q v H1
def X! (K:Rb) (ta tv:TE) (f:Str):TS:=λD σ H=>tv σ H λy H1=>ta σ H1 λx H2=>∃ a C dx fs,x=.ref a/\H2 a=some (.ins C dx fs)/\u6 K C/\iP K C f/\fs.length < 1000 /\
 D.nx σ (upd H2 a (.ins C dx (mO f y fs)))
def KZ (X:Cx) (op:Operator) (rd:V->V->Hp->VK->Prop):Prop :=
 ∀ (aa:List (Addr×Obj)) (s:Shared) (σ:St) (H:Hp) (x y:V) (u v:Value) (Q:VK),Inv X aa σ H s->bQ x u->bQ y v->rd x y H Q->wpAny (model X.prog X.w) X.A (inplaceOp op u v) (EP X aa σ Q) X.xe s
def aE7 (K:Rb) (ta tv:TE) (rd:V->V->Hp->VK->Prop) (f:Str):TS:=λD σ H=>ta σ H λx H1=>∃ a C dx fs v,x=.ref a/\H1 a=some (.ins C dx fs)/\u6 K C/\iP K C f/\fs.lookup f=some v /\
 tv σ H1 λy H2=>rd v y H2 λz H3=>∃ KH CJ,H3 a=some (.ins C KH CJ)/\CJ.length < 1000/\D.nx σ (upd H3 a (.ins C KH (mO f z CJ)))
section
variable {o:Expr} {f:Str}
theorem cL (he:PE X e ta) (hb:attributeBase e f X.env (eval e X.env)=eval e X.env):PE X (.Attribute e f pos) (R0 X.K ta f):=by
 intro aa s σ H Q I h
 refine aE6 hb (bh (he aa s σ H _ I h) λu s1 ay=>?_)
 obtain ⟨x,H1,I1,rx,a,C,dx,fs,v,ex,ea,c,n,l,q⟩:=ay
 subst ex
 obtain rfl:u=Value.ref a:=rx
 exact tQ I1 ea c n l λu' s2 I2 ru=>⟨v,H1,I2,ru,q⟩
theorem pA (ha:PE X o ta) (hv:PE X value tv) (hs:swapsWith value (some (.Attribute o f pos')) pos.line X.env=pure false):PS X (.Assign [.Attribute o f pos'] value pos) (X! X.K ta tv f):=by
 intro aa s σ H D I h
 refine plainObj_wpAny_Assign_Attribute (bh (hv aa s σ H _ I h) λu s1 ⟨y,H1,I1,ry,q⟩=>bh (ha aa s1 σ H1 _ I1 q) λov s2 ay=>?_) hs
 obtain ⟨x,H2,I2,rx,a,C,dx,fs,ex,ea,c,n,l,q2⟩:=ay
 subst ex
 obtain rfl:ov=Value.ref a:=rx
 exact tT I2 ea c n l ry λs3 I3=>⟨σ,_,I3,q2⟩
theorem nJ {op:Operator} {rd:V->V->Hp->VK->Prop} (ha:PE X o ta) (hv:PE X value tv) (ZR:KZ X op rd):PS X (.AugAssign (.Attribute o f BB) op value pos) (aE7 X.K ta tv rd f):=by
 intro aa s σ H D I h
 refine wpAny_AugAssign_AttributeAny (bh (ha aa s σ H _ I h) λov s1 ay=>?_)
 obtain ⟨x,H1,I1,rx,a,C,dx,fs,v,ex,ea,c,n,l,q⟩:=ay
 subst ex
 obtain rfl:ov=Value.ref a:=rx
 refine tQ I1 ea c n l λu s2 I2 ru=>bh (hv aa s2 σ H1 _ I2 q) λw3 s3 ⟨y,H2,I3,ry,q3⟩=>bh (ZR aa s3 σ H2 v y u w3 _ I3 ru ry q3) λw4 s4 ay=>?_
 obtain ⟨z,H3,I4,rz,KH,CJ,C?,l',q4⟩:=ay
 exact tT I4 C? c n l' rz λs5 I5=>⟨σ,_,I5,q4⟩
def W?:V->V->Hp->VK->Prop:=λx y H Q=>∃ i j,x=.int i/\y=.int j/\Q (.int (i+j)) H
def W!:V->V->Hp->VK->Prop:=λx y H Q=>∃ i j,x=.int i/\y=.int j/\Q (.int (i - j)) H
theorem LH:KZ X .Add W?:=by
 rintro aa s σ H x y u v Q I rx ry ⟨i,j,rfl,rfl,q⟩
 obtain ⟨t,rfl⟩:=(show ∃ t,u=Value.int i t from rx)
 obtain ⟨t',rfl⟩:=(show ∃ t',v=Value.int j t' from ry)
 exact PyProof.Rows.iadd_int ⟨.int (i+j),H,I.tok _,⟨_,rfl⟩,q⟩
theorem aGS:KZ X .Sub W!:=by
 rintro aa s σ H x y u v Q I rx ry ⟨i,j,rfl,rfl,q⟩
 obtain ⟨t,rfl⟩:=(show ∃ t,u=Value.int i t from rx)
 obtain ⟨t',rfl⟩:=(show ∃ t',v=Value.int j t' from ry)
 exact PyProof.Rows.isub_int ⟨.int (i - j),H,I.tok _,⟨_,rfl⟩,q⟩
end
section
variable {σ:St} {c:Value} {b:Bool}
end
structure aj (k:Nat) (A:Around):Prop where
 hd:A.handled=none
 dp:A.depth+3*k+5 < recursionLimit
 un:A.units+16*k+200 < cLine
 gd:A.guards=some []
theorem aj.mono {k:Nat} (r:aj k A) (h:j<=k):aj j A:=⟨r.hd,by have:=r.dp; omega,by have:=r.un; omega,r.gd⟩
theorem aj.deeper {k:Nat} (r:aj (k+1) A) (env:Env):aj k (A.deeper env) :=
 ⟨r.hd,by have:=r.dp; show A.depth+1+3*k+5 < _; omega,by have:=r.un; show A.units+3+16*k+200 < _; omega,r.gd⟩
theorem aj.in1 {k:Nat} (r:aj (k+1) A):aj k A.in1 :=
 ⟨r.hd,by have:=r.dp; show A.depth+3*k+5 < _; omega,by have:=r.un; show A.units+1+16*k+200 < _; omega,r.gd⟩
theorem aA7:(A.under (.builtin "type.__call__" ⟨.ref C::us,kw⟩)).depth=A.depth+1:=by
 first | rfl | simp [Around.under,Code.weight,Code.isCreation,Code.isGuard,Code.isCaller,Code.frames,Code.isFrame,guardIds]
theorem aA8:(A.under (.builtin "type.__call__" ⟨.ref C::us,kw⟩)).units=A.units+1:=by
 first | rfl | simp [Around.under,Code.cUnits,Code.frames,Code.isFrame]
theorem aAb:(A.under (.builtin "type.__call__" ⟨.ref C::us,kw⟩)).guards=A.guards:=by
 first | rfl | simp [Around.under,Code.guards,Code.isGuard,pushGuards,guardIds]
theorem aj.make {k:Nat} (r:aj (k+1) A) (C:Addr) (us:List Value) (kw:List (Str×Value)):aj k (A.under (.builtin "type.__call__" ⟨.ref C::us,kw⟩)) :=
 ⟨r.hd,by have:=r.dp; rw [aA7]; omega,by have:=r.un; rw [aA8]; omega,by rw [aAb]; exact r.gd⟩
theorem aj.depth {k:Nat} (r:aj k A):A.depth < recursionLimit:=by have:=r.dp; omega
theorem aj.units {k:Nat} (r:aj k A):A.units+64 < cLine:=by have:=r.un; omega
abbrev oF:TA:=λ_ H Q=>Q [] H
abbrev iL (ta:TE) (tr:TA):TA:=λσ H Q=>ta σ H λx H1=>tr σ H1 λxs H2=>Q (x::xs) H2
section
variable {t:TA}
theorem aC:PA X [] oF:=λ_ _ _ _ H Q I h=>Calls.spliced_nil ⟨[],H,I,.nil,h⟩
theorem aA (ha:PE X e te) (hr:PA X es t) (hs:starEach (e::es) X.env=(false,eval e X.env)::starEach es X.env:=by rfl):PA X (e::es) (iL te t):=by
 intro pos aa s σ H Q I h
 rw [hs]
 show wpAny _ _ (spliced ((false,eval e X.env)::backTo pos (starEach es X.env))) _ _ s
 refine Calls.spliced_cons (bh (ha aa s σ H _ I h) λu s1 ay=>?_)
 obtain ⟨x,H1,I1,r1,q1⟩:=ay
 refine bh (hr pos aa s1 σ H1 _ I1 q1) λus s2 ay=>?_
 obtain ⟨xs,H2,I2,r2,q2⟩:=ay
 exact ⟨x::xs,H2,I2,.cons r1 r2,q2⟩
def Ai (t:TA):TE:=λσ H Q=>t σ H λxs H1=>xs.length<=sizeLine/\∀ p,H1 p=none->Q (.ref p) (upd H1 p (.tup xs))
def Ea (t:TA):TE:=λσ H Q=>t σ H λxs H1=>xs.length<=sizeLine/\∀ p,H1 p=none->Q (.ref p) (upd H1 p (.lst xs))
theorem cB {x1} (h:PA X es t):PE X (.Tuple es x1 pos) (Ai t):=by
 intro aa s σ H Q I hq
 refine wpAny_Tuple_spliced (bh (h pos aa s σ H _ I hq) λus s1 ⟨xs,H1,I1,r,z,q⟩=>⟨by rw [<- r.length]; exact z,?_⟩)
 have hf:H1 s1.heap.objs.size=none:=I1.ax.fresh (Qh _)
 refine ⟨.ref s1.heap.objs.size,upd H1 s1.heap.objs.size (.tup xs),I1.laid (t':=s1.toks) (λb u e=>Qc _ e) (Qh _) ?_,rfl,q _ hf⟩
 exact ⟨z,us,0,r,Qj _ rfl⟩
theorem gT (h:PA X es t):PE X (.List es pos) (Ea t):=by
 intro aa s σ H Q I hq
 refine wpAny_List_spliced (bh (h pos aa s σ H _ I hq) λus s1 ⟨xs,H1,I1,r,z,q⟩=>⟨by rw [<- r.length]; exact z,?_⟩)
 have hf:H1 s1.heap.objs.size=none:=I1.ax.fresh (Qh _)
 refine ⟨.ref s1.heap.objs.size,upd H1 s1.heap.objs.size (.lst xs),I1.laid (t':=s1.toks) (λb u e=>Qc _ e) (Qh _) ?_,rfl,q _ hf⟩
 exact ⟨z,us,0,r,Qj _ rfl⟩
end
abbrev Sp:=List V->Hp->VK->XK->Prop
end L2
variable {sp:Sp}
namespace L2
open PySem PySem.Spec PyProof.Rows
abbrev Ar:=List Env->Hp->Shared->XK->Value->Shared->Prop
end L2
variable {CX:Ar}
namespace L2
open PySem PySem.Spec PyProof.Rows
structure ph (P:Program) (w:World) (K:Rb) (mg:Str->Option Value) (base:Heap) (A:Around) (outer:List Env) (s:Shared) (H:Hp):Prop where
 frames:A.frames=some outer
 mod:Mod K mg base
 bs:∀ b o,base.get? b=some o->s.heap.get? b=some o/\H b=none
 yl:base.objs.size<=s.heap.objs.size
 iq:s.heap.FunFrames base outer
 wu:∀ b∈dj outer,H b=none
 ax:gi P w H s.heap
 bare:AllBare s.gens
def CE (outer:List Env) (P:Program) (w:World) (H:Hp) (s:Shared) (Q:VK) (u:Value) (s':Shared):Prop :=
 ∃ v H',s'.os=s.os/\AllBare s'.gens/\Un (dj outer) [] H H' s.heap s'.heap/\gi P w H' s'.heap/\bQ v u/\Q v H'
def CR (CX:Ar) (outer:List Env) (P:Program) (w:World) (H:Hp) (s:Shared) (Q:VK) (E:XK) (r:Result) (s':Shared):Prop :=
 match r with
 | .ok (.ret u)=>CE outer P w H s Q u s'
 | .ok _=>False
 | .error e=>CX outer H s E e s'
structure ae (P:Program) (w:World) (K:Rb) (mg:Str->Option Value) (base:Heap) (CX:Ar) (k:Nat) (f:Addr) (fd:FuncData) (ps:List Str) (sp:Sp):Prop where
 len:∀ vs H Q E,sp vs H Q E->vs.length=ps.length
 run:∀ (A:Around) (outer:List Env) (s:Shared) (H:Hp) (args:Args) (us:List Value) (vs:List V) (Q:VK) (E:XK),aj k A->ph P w K mg base A outer s H->BindsTo s fd args (ps.zip us)->bH vs us->sp vs H Q E ->
  codeAny (model P w) A (.call (.ref f) args) (CR CX outer P w H s Q E) s
theorem ph.make (e:ph P w K mg base A outer s H) (C:Addr) (us:List Value) (kw:List (Str×Value)) :
  ph P w K mg base (A.under (.builtin "type.__call__" ⟨.ref C::us,kw⟩)) outer s H:=⟨by first | exact e.frames | (simpa [Around.under,Code.envs,Code.isFrame,pushEnvs] using e.frames),e.mod,e.bs,e.yl,e.iq,e.wu,e.ax,e.bare⟩
section
variable {σ:St}
theorem Inv.y4 (I:Inv X aa σ H s):ph X.prog X.w X.K X.mg X.base X.A X.stack s H :=
 ⟨I.ok.frames,I.ok.mod,I.bs,Ja I.ok.yl I.sz,I.stack,I.g_,I.ax,I.bare⟩
theorem Inv.after {Q:VK} (I:Inv X aa σ H s) (h:CE X.stack X.prog X.w H s Q u s'):EP X aa σ Q u s':=by
 obtain ⟨v,H',os,bare,un,ax,r,q⟩:=h
 obtain ⟨hh,g,d,t,Cq⟩:=s'
 obtain rfl:Cq=s.os:=os
 exact ⟨v,H',I.call (h':=hh) (g':=g) (d':=d) (t':=t) (ch:=[]) un ax bare (λb z=>absurd z (by simp)),r,q⟩
end
def G6 (sp:Sp) (fk:List V) (E:XK) (t:TA):TE:=λσ H Q=>t σ H λvs H1=>sp (vs++fk) H1 Q E
def Sz (C:Addr) (m:Str) (sp:Sp) (fk:List V) (E:XK) (ta:TE) (t:TA):TE:=λσ H Q=>ta σ H λx H1=>∃ a dx fs,x=.ref a/\H1 a=some (.ins C dx fs)/\fs.lookup m=none /\
 t σ H1 λvs H2=>sp (x::(vs++fk)) H2 Q E
def Sy (C:Addr) (sp:Sp) (fk:List V) (E:XK) (t:TA):TE:=λσ H Q=>t σ H λvs H1=>∀ x dx,H1 x=none->H1 dx=none->dx≠x ->
 sp (.ref x::(vs++fk)) (upd (upd H1 dx (.own x)) x (.ins C dx [])) (λv H2=>v=.br/\Q (.ref x) H2) E
def jT (K:Rb) (fd:FuncData) (ps:List Str) (ds:List Value):Prop :=
 ∀ (s:Shared) (us:List Value),K.In s.heap->(us++ds).length=ps.length->BindsTo s fd ⟨us,[]⟩ (ps.zip (us++ds))
theorem jT.all (h:∀ us:List Value,us.length=ps.length->bindArgs fd ⟨us,[]⟩=pure (ps.zip us)):jT K fd ps []:=λs us _ hl=>by
 rw [We] at hl ⊢
 exact .of_eq (h us hl)
def mP (CX:Ar) (X:Cx) (E:XK):Prop:=∀ (aa:List (Addr×Obj)) (σ:St) (H:Hp) (s:Shared) (e:Value) (s':Shared),Inv X aa σ H s->CX X.stack H s E e s'->X.xe e s'
section
variable {k:Nat} {ds:List Value} {E:XK} {x m:Str} {p:Pos} {o:Expr} {t:TA}
theorem LG {σ:St} {Q:VK} (F:ae X.prog X.w X.K X.mg X.base CX k f fd ps sp) (hr:aj k X.A) (hb:jT X.K fd ps ds) (hd:bH fk ds) (hx:mP CX X E) (I:Inv X aa σ H s) (r:bH vs us) (h:sp (vs++fk) H Q E):wpAny (model X.prog X.w) X.A (call (.ref f) us) (EP X aa σ Q) X.xe s:=by
 have r2:bH (vs++fk) (us++ds):=r.append hd
 have hl:(us++ds).length=ps.length:=by rw [<- r2.length]; exact F.len _ _ _ _ h
 refine Vg (Uv (F.run X.A X.stack s H ⟨us,[]⟩ (us++ds) (vs++fk) Q E hr I.y4 (hb s us I.i_ hl) r2 h) λr s' hq=>?_)
 cases r with
 | error e=>exact hx aa σ H s e s' I hq
 | ok fl =>
  cases fl with
  | ret u=>exact I.after hq
  | next=>exact False.elim hq
  | brk=>exact False.elim hq
  | cont=>exact False.elim hq
theorem aE8 (F:ae X.prog X.w X.K X.mg X.base CX k f fd ps sp) (hr:aj k X.A) (hg:Gl X x) (hm:X.mg x=some (.ref f)) (hk:Tc X.K (.ref f)=true) (hb:jT X.K fd ps ds) (hd:bH fk ds) (hx:mP CX X E)
  (ha:PA X (e::es) t) (kj:(x==("__debug__" : Str))=false:=by decide) (he:starEach (e::es) X.env=(false,eval e X.env)::starEach es X.env:=by rfl) (j_:(backTo pos (starEach es X.env)).any (·.1)=false:=by rfl) :
  PE X (.Call (.Name x p) (e::es) [] pos) (G6 sp fk E t):=by
 intro aa s σ H Q I h
 refine To (lL I hg hm ?_ kj)
 refine Tx (h₀:=X.base) I.ok.mod.xr hk (bh (ha pos aa s σ H _ I h) λus s1 ⟨vs,H1,I1,r,q⟩=>⟨I1.i_,?_⟩) he j_
 exact LG F hr hb hd hx I1 r q
theorem kH (he:PE X o ta) (c:u6 X.K C) (hm:Meth X.K C m f) (F:ae X.prog X.w X.K X.mg X.base CX k f fd ps sp) (hr:aj k X.A) (hb:jT X.K fd ps ds) (hd:bH fk ds) (hx:mP CX X E) (ha:PA X (e::es) t) (ig:starEach (e::es) X.env=(false,eval e X.env)::starEach es X.env:=by rfl) (j_:(backTo pos (starEach es X.env)).any (·.1)=false:=by rfl) (ht:eval (.Call (.Attribute o m apos) (e::es) [] pos) X.env=(do
   let ov<-eval o X.env
   standAt apos.atName
   let (f,first)<-holding [ov] (getMethod ov m pl)
   callWith pos f first (backTo pos (starEach (e::es) X.env)) (backToKw pos (keywordEach [] X.env))):=by rfl) :
  PE X (.Call (.Attribute o m apos) (e::es) [] pos) (Sz C m sp fk E ta t):=by
 intro aa s σ H Q I h
 refine Iw (pl:=pl) (bh (he aa s σ H _ I h) λu s1 ay=>?_) ht
 obtain ⟨x,H1,I1,rx,a,dx,fs,ex,ea,l,q⟩:=ay
 subst ex
 obtain rfl:u=Value.ref a:=rx
 refine tR I1 ea c hm l ?_
 refine Tx (first:=[.ref a]) (h₀:=X.base) I.ok.mod.xr hm.kp (bh (ha pos aa s1 σ H1 _ I1 q) λus s2 ⟨vs,H2,I2,r,q2⟩=>⟨I2.i_,?_⟩) ig j_
 exact LG (us:=.ref a::us) (vs:=.ref a::vs) F hr hb hd hx I2 (.cons rfl r) q2
theorem cV (he:PE X o ta) (c:u6 X.K C) (hm:Meth X.K C m f) (F:ae X.prog X.w X.K X.mg X.base CX k f fd ps sp) (hr:aj k X.A) (hb:jT X.K fd ps ds) (hd:bH fk ds) (hx:mP CX X E) (ht:eval (.Call (.Attribute o m apos) [] [] pos) X.env=(do
   let ov<-eval o X.env
   standAt apos.atName
   let (f,first)<-holding [ov] (getMethod ov m pl)
   callWith pos f first (backTo pos (starEach [] X.env)) (backToKw pos (keywordEach [] X.env))):=by rfl) :
  PE X (.Call (.Attribute o m apos) [] [] pos) (Sz C m sp fk E ta oF):=by
 intro aa s σ H Q I h
 refine Iw (pl:=pl) (bh (he aa s σ H _ I h) λu s1 ay=>?_) ht
 obtain ⟨x,H1,I1,rx,a,dx,fs,ex,ea,l,q⟩:=ay
 subst ex
 obtain rfl:u=Value.ref a:=rx
 refine tR I1 ea c hm l ?_
 exact PySem.W.callWith_K0 (first:=[.ref a]) I1.i_ hm.kp (LG (us:=[.ref a]) (vs:=[.ref a]) F hr hb hd hx I1 (.cons rfl .nil) q)
structure Mk (K:Rb) (C f:Addr):Prop where
 makes:Vt K C=true
 init:Rm K (.ref C) "__init__" = some (some (.ref f))
 fn:Uy K (.ref f)=true
 kp:Tc K (.ref C)=true
theorem aDu {σ:St} {Q:VK} (M:Mk X.K C f) (F:ae X.prog X.w X.K X.mg X.base CX k f fd ps sp) (hr:aj (k+1) X.A) (hb:jT X.K fd ps ds) (hd:bH fk ds) (hx:mP CX X E) (I:Inv X aa σ H s) (r:bH vs us) (h:∀ x dx,H x=none->H dx=none->dx≠x->sp (.ref x::(vs++fk)) (upd (upd H dx (.own x)) x (.ins C dx [])) (λv H2=>v=.br/\Q (.ref x) H2) E) :
  wpAny (model X.prog X.w) X.A (call (.ref C) us) (EP X aa σ Q) X.xe s:=by
 have hq:=h (s.heap.objs.size+1) s.heap.objs.size (I.ax.fresh (Yc _)) (I.ax.fresh (Qh _)) (Qy (Xn _))
 have I2:=Inv.made (C:=C) I
 have r2:bH (V.ref (s.heap.objs.size+1)::(vs++fk)) (Value.ref (s.heap.objs.size+1)::(us++ds)):=.cons rfl (r.append hd)
 have hl:(Value.ref (s.heap.objs.size+1)::us++ds).length=ps.length:=by
  have e:=r2.length
  rw [F.len _ _ _ _ hq] at e
  exact e.symm
 refine Vg (U8 (f:=f) I.i_ M.makes M.init (beq_iff_eq.mp M.fn) (Uv (F.run _ X.stack _ _ ⟨Value.ref (s.heap.objs.size+1)::us,[]⟩ (Value.ref (s.heap.objs.size+1)::(us++ds)) _ _ E (hr.make C us [])
  (I2.y4.make C us []) (hb _ (Value.ref (s.heap.objs.size+1)::us) I2.i_ hl) r2 hq) λr s' q_=>?_))
 cases r with
 | error e=>exact hx aa σ _ _ e s' I2 q_
 | ok fl =>
  cases fl with
  | ret u =>
   obtain ⟨v,H',I3,rv,ev,q3⟩:=I2.after q_
   subst ev
   exact ⟨rv,⟨V.ref (s.heap.objs.size+1),H',I3,rfl,q3⟩⟩
  | next=>exact False.elim q_
  | brk=>exact False.elim q_
  | cont=>exact False.elim q_
theorem aE9 (M:Mk X.K C f) (F:ae X.prog X.w X.K X.mg X.base CX k f fd ps sp) (hr:aj (k+1) X.A) (hg:Gl X x) (hm:X.mg x=some (.ref C)) (hb:jT X.K fd ps ds) (hd:bH fk ds) (hx:mP CX X E)
  (ha:PA X (e::es) t) (kj:(x==("__debug__" : Str))=false:=by decide) (he:starEach (e::es) X.env=(false,eval e X.env)::starEach es X.env:=by rfl) (j_:(backTo pos (starEach es X.env)).any (·.1)=false:=by rfl) :
  PE X (.Call (.Name x p) (e::es) [] pos) (Sy C sp fk E t):=by
 intro aa s σ H Q I h
 refine To (lL I hg hm ?_ kj)
 refine Tx (h₀:=X.base) I.ok.mod.xr M.kp (bh (ha pos aa s σ H _ I h) λus s1 ⟨vs,H1,I1,r,q⟩=>⟨I1.i_,?_⟩) he j_
 exact aDu M F hr hb hd hx I1 r q
end
section
variable {k:Nat} {ks:List Str} {E:XK} {x m:Str} {p EO:Pos} {o:Expr} {AQ:List Keyword} {t tk:TA} {nm:Option Str}
variable {g:List Value->List Value->List Value} {gV:List V->List V->List V}
end
structure af (N P:List Str) (sc:Scope):Prop where
 kind:sc.kind=.function
 co:sc.isCoroutine=false
 gen:sc.isGenerator=false
 nd:N.Nodup
 pre:N.take P.length=P
 par:∀ x∈P,sc.names.lookup x=some .local∨sc.names.lookup x=some .cell
 Ca:∀ y∈sc.names,y.2≠.free
theorem af.of {P:List Str} (a:sc.kind=.function:=by exact rfl) (b:sc.isCoroutine=false:=by exact rfl) (c:sc.isGenerator=false:=by exact rfl) (d:N.Nodup:=by decide +kernel) (e:N.take P.length=P:=by exact rfl) (f:∀ x∈P,sc.names.lookup x=some .local∨sc.names.lookup x=some .cell:=by decide +kernel) (g:∀ y∈sc.names,y.2≠.free:=by decide +kernel):af N P sc:=⟨a,b,c,d,e,f,g⟩
theorem wO {x:Str}:∀ {binds:List (Str×Value)} {m:Str->Option Value},(∀ v,(x,v)∉binds)->bindL kindOf binds m x=m x
 | [],_,_=>rfl
 | (n,v)::r,m,h=>by
  unfold bindL
  rw [wO λw hw=>h w (Qk _ hw)]
  split
  ·have:x≠n:=by rintro rfl; exact h v Qp
   simp [this]
  ·rfl
theorem wP {x:Str}:∀ {binds:List (Str×Value)} {m:Str->Option Value},(∀ v,(x,v)∉binds)->bindC kindOf binds m x=m x
 | [],_,_=>rfl
 | (n,v)::r,m,h=>by
  unfold bindC
  rw [wP λw hw=>h w (Qk _ hw)]
  split
  ·rfl
  ·have:x≠n:=by rintro rfl; exact h v Qp
   simp [this]
theorem wQ {x:Str} {v:Value}:∀ {P:List Str} {vs:List Value} {i:Nat} {m:Str->Option Value},P.Nodup->P[i]?=some x->vs[i]?=some v->kindOf x=some .local ->
  bindL kindOf (P.zip vs) m x=some v
 | [],_,_,_,_,h,_,_=>by simp at h
 | _::_,[],_,_,_,_,h,_=>by simp at h
 | p::P,w::vs,0,m,nd,h1,h2,hk=>by
  simp at h1 h2; subst h1; subst h2
  show bindL kindOf ((p,w)::P.zip vs) m p=_
  unfold bindL
  rw [wO λv hv=>(Jk.mp nd).1 (Yd hv).1,if_pos hk]
  simp
 | p::P,w::vs,i+1,m,nd,h1,h2,hk=>by
  show bindL kindOf ((p,w)::P.zip vs) m x=_
  unfold bindL
  exact wQ (i:=i) (Jk.mp nd).2 (by simpa using h1) (by simpa using h2) hk
theorem wR {x:Str} {v:Value}:∀ {P:List Str} {vs:List Value} {i:Nat} {m:Str->Option Value},P.Nodup->P[i]?=some x->vs[i]?=some v->kindOf x≠some .local ->
  bindC kindOf (P.zip vs) m x=some v
 | [],_,_,_,_,h,_,_=>by simp at h
 | _::_,[],_,_,_,_,h,_=>by simp at h
 | p::P,w::vs,0,m,nd,h1,h2,hk=>by
  simp at h1 h2; subst h1; subst h2
  show bindC kindOf ((p,w)::P.zip vs) m p=_
  unfold bindC
  rw [wP λv hv=>(Jk.mp nd).1 (Yd hv).1,if_neg hk]
  simp
 | p::P,w::vs,i+1,m,nd,h1,h2,hk=>by
  show bindC kindOf ((p,w)::P.zip vs) m x=_
  unfold bindC
  exact wR (i:=i) (Jk.mp nd).2 (by simpa using h1) (by simpa using h2) hk
def start (N:List Str) (vs:List V):St:=vs.map some++List.replicate (N.length - vs.length) none
def oG (CX:Ar) (P:Program) (w:World) (K:Rb) (mg:Str->Option Value) (base:Heap) (N:List Str) (qual:Str) (scope:Scope) (f:Addr) (cd:Value) (A:Around) (outer:List Env) (s:Shared) (H:Hp) (E:XK):Cx where
 prog:=P
 w:=w
 K:=K
 mg:=mg
 base:=base
 A:=A.deeper (envOfC qual scope s.heap.objs.size f cd)
 N:=N
 gq:=s
 t_:=H
 env:=envOfC qual scope s.heap.objs.size f cd
 outer:=outer
 stack:=envOfC qual scope s.heap.objs.size f cd::outer
 ex:=[]
 calm:=true
 fn:=λ_=>true
 pn:=[]
 xe:=λe s'=>wpAny (model P w) (A.deeper (envOfC qual scope s.heap.objs.size f cd)) (leaving (envOfC qual scope s.heap.objs.size f cd) e) (λ_ AI=>CX outer H s E e AI) (λe' AI=>CX outer H s E e' AI) s'
theorem U7 {x:Str} (h:sc.names.lookup x=some .cell):∃ c,(cellsFrom n sc.names []).lookup x=some c:=by
 have q:=Iu sc.names n [] (.inl h)
 exact Yp.mp q
theorem aCI {cd:Value} {s1:Shared} {E:XK} (S:af N ps scope) (hd:A.handled=none) (e0:ph P w K mg base A outer s H) (hl:vs.length=ps.length) (r:bH vs us) (x:InCallC s s.heap.objs.size (bindL (envOfC qual scope s.heap.objs.size f cd).kindOf (ps.zip us) λ_=>none) (cellsFrom (s.heap.objs.size+1) scope.names []) (bindC (envOfC qual scope s.heap.objs.size f cd).kindOf (ps.zip us) λ_=>none) s1) :
  Inv (oG CX P w K mg base N qual scope f cd A outer s H E) [] (start N vs) H s1:=by
 have j_:ps.length<=N.length:=by have:=congrArg Wl S.pre; rw [Ji] at this; omega
 obtain ⟨h1,tk,rfl,hk⟩:=x.done
 have Dg:∀ b:Addr,b∉(oG CX P w K mg base N qual scope f cd A outer s H E).ex:=λb z=>absurd (show b∈([]:List Addr) from z) (by simp)
 refine ⟨⟨e0.mod,S.kind,rfl,rfl,Qh _,λy z c h1 h2=>?_,λy hy=>?_,λy c _ h=>?_,λ_=>hd,Around.frames_deeper e0.frames,.inr ⟨rfl,rfl⟩,λb z=>absurd z (Dg b),e0.bs,e0.yl,λb _ _=>Dg b,λb z=>absurd z (Dg b),e0.iq,e0.wu⟩,
  rfl,e0.bare,Un.kept hk,⟨_,x.toInCall.ns,λi y v h1 h2 h3=>?_⟩,λy c h=>⟨_,x.cell y c h⟩,e0.ax.fresh (Qh _),λy c h=>?_,λp hp=>absurd (show p∈([]:List (Addr×Obj)) from hp) (by simp),e0.ax.kept hk,?_⟩
 ·exact name_of_addr x.apart (Tv h1) (Tv h2)
 ·have hy:scope.names.lookup y=some .cell∨scope.names.lookup y=some .free:=hy
  rcases hy with hy | hy
  ·exact U7 hy
  ·exact absurd rfl (S.Ca _ (Tv hy))
 ·exact Jh (x.above y c (Tv h))
 ·have hi:i < vs.length:=by
   unfold start at h2
   by_cases hi:i < vs.length
   ·exact hi
   ·rw [Qr (by simpa using hi)] at h2
    rw [Xh] at h2
    split at h2 <;> cases h2
  have ha:vs[i]?=some v:=by
   unfold start at h2
   rw [Qn (by simpa using hi),Qi] at h2
   cases e:vs[i]? with
   | none=>rw [e] at h2; cases h2
   | some a=>rw [e] at h2; cases h2; rfl
  obtain ⟨u,hu,rv⟩:=r.get ha
  have hp:ps[i]?=some y:=by
   rw [<- S.pre,List.getElem?_take_of_lt (by omega)]; exact h1
  have Oo:ps.Nodup:=by rw [<- S.pre]; exact S.nd.sublist (List.take_sublist _ _)
  refine ⟨u,rv,?_⟩
  rcases S.par y (Qe hp) with k | k
  ·exact .inl ⟨k,wQ Oo hp hu k⟩
  ·obtain ⟨c,e⟩:=U7 (n:=s.heap.objs.size+1) k
   refine .inr ⟨.inl k,c,e,?_⟩
   have q:=x.cell y c e
   rw [wR Oo hp hu (by show scope.names.lookup y≠_; rw [k]; decide)] at q
   exact q
 ·exact e0.ax.fresh (Jh (x.above y c (Tv h)))
 ·unfold start
  show _=N.length
  rw [Qg,Qd,Jj]
  omega
theorem K_ {k:Nat} {dV kV:Value} (lk:K.lookup f=some ⟨oc,od,.func (Tg name qual params body scope dV kV doc pm an bg ct),qx⟩) (ju:Uc K bg qual=true) (S:af N ps scope) (len:∀ vs H Q E,sp vs H Q E->vs.length=ps.length) (f':∀ (A:Around) (outer:List Env) (s:Shared) (H:Hp) (vs:List V) (Q:VK) (E:XK),aj k (A.deeper (envOfC qual scope s.heap.objs.size f bg))->sp vs H Q E ->
   ∃ t,j4 (oG CX P w K mg base N qual scope f bg A outer s H E) body t/\t { nx:=λ_ H'=>Q .br H',rt:=Q } (start N vs) H) :
  ae P w K mg base CX (k+1) f (Tg name qual params body scope dV kV doc pm an bg ct) ps sp:=by
 refine ⟨len,λA outer s H args us vs Q E hr e0 hb r qb=>?_⟩
 have hl:=len _ _ _ _ qb
 have KX:K.In s.heap:=e0.mod.xr.keeps λb o e=>(e0.bs b o e).1
 have lim:s.heap.NoLimit:=e0.mod.nolimit.keeps λb o e=>(e0.bs b o e).1
 have Fq:∀ y∈ps.zip us,scope.names.lookup y.1=some .local∨(scope.names.lookup y.1=some .cell/\((cellsFrom (s.heap.objs.size+1) scope.names []).lookup y.1).isSome=true):=λ⟨n,v⟩ hy=>by
  rcases S.par n (Yd hy).1 with q | q
  ·exact .inl q
  ·exact .inr ⟨q,Iu _ _ _ (.inl q)⟩
 refine codeAny_call_function hr.depth (KX _ _ lk) rfl S.co S.gen rfl (PySem.W.codeRec_of KX ju) (hb _ _ _ _ ?_)
 refine wpAny_newFunctionEnv_cells S.kind Fq λenv he s1 x=>?_
 subst he
 refine ⟨lim.keeps x.toInCall.keep,codeAny_func ?_⟩
 obtain ⟨t,ht,hq⟩:=f' A outer s H vs Q E (hr.deeper _) qb
 have I:Inv (oG CX P w K mg base N qual scope f bg A outer s H E) [] (start N vs) H s1:=aCI S hr.hd e0 hl r x
 refine Rj (ht [] s1 (start N vs) H _ I hq) (λfl s' hs=>?_) λe s' hs=>hs
 have fin:∀ {ak:St} {H':Hp} {v:V} {u:Value},Inv (oG CX P w K mg base N qual scope f bg A outer s H E) [] ak H' s'->bQ v u->Q v H'->CE outer P w H s Q u s' :=
  λ{ak H' v u} J rv q=>⟨v,H',J.os,J.bare,J.base,J.ax,rv,q⟩
 cases fl with
 | ret u =>
  obtain ⟨v,ak,H',J,rv,q⟩:=hs
  exact fin J rv q
 | next =>
  obtain ⟨ak,H',J,q⟩:=hs
  exact fin (v:=V.br) (u:=Value.none) J rfl q
 | brk =>
  obtain ⟨_,_,_,q⟩:=hs
  exact False.elim q
 | cont =>
  obtain ⟨_,_,_,q⟩:=hs
  exact False.elim q
section
variable {x:Str} {p:Pos} {t:TA} {id:String} {r:List V->Hp->VK->Prop}
def FF (r:List V->Hp->VK->Prop) (t:TA):TE:=λσ H Q=>t σ H λvs H1=>r vs H1 Q
theorem aL (hc:eT X (.builtin id) r) (hg:Gl X x) (hm:X.mg x=none) (hv:bootBuiltins x=some (.builtin id)) (ha:PA X (e::es) t) (hn:x ≠ "__name__" := by decide) (kj:(x==("__debug__" : Str))=false:=by decide)
  (he:starEach (e::es) X.env=(false,eval e X.env)::starEach es X.env:=by rfl) (j_:(backTo pos (starEach es X.env)).any (·.1)=false:=by rfl):PE X (.Call (.Name x p) (e::es) [] pos) (FF r t):=by
 intro aa s σ H Q I h
 refine To (mK I hg hm hv ?_ hn kj)
 refine PyProof.Rows.callWith_builtin1 (bh (ha pos aa s σ H _ I h) λus s1 ay=>?_) he j_
 obtain ⟨vs,H1,I1,r1,q1⟩:=ay
 exact hc aa s1 σ H1 vs us Q I1 r1 q1
theorem cR (hc:eT X (.type T) r) (hg:Gl X x) (hm:X.mg x=none) (hv:bootBuiltins x=some (.type T)) (ha:PA X (e::es) t) (hn:x ≠ "__name__" := by decide) (kj:(x==("__debug__" : Str))=false:=by decide)
  (he:starEach (e::es) X.env=(false,eval e X.env)::starEach es X.env:=by rfl) (j_:(backTo pos (starEach es X.env)).any (·.1)=false:=by rfl):PE X (.Call (.Name x p) (e::es) [] pos) (FF r t):=by
 intro aa s σ H Q I h
 refine To (mK I hg hm hv ?_ hn kj)
 refine PyProof.Rows.callWith_type1 (bh (ha pos aa s σ H _ I h) λus s1 ay=>?_) he j_
 obtain ⟨vs,H1,I1,r1,q1⟩:=ay
 exact hc aa s1 σ H1 vs us Q I1 r1 q1
end
end L2
namespace HT
open PySem PyProof.Rows
section
open PySem.SeqAt
open PySem.AutoSeq1 (wpAny_loadPart')
open PySem.MeetsSeq PySem.MeetsSeq2 PySem.MeetsSeq3
end
theorem y9 {b:Addr} {vs ws:List Value} (ht:IsTup s.heap t vs.toArray) (hb:IsTup s.heap b ws.toArray) (hv:vs≠[]) (h1:ws = []->Q (.ref t) s) (h2:ws≠[]->Q (.ref s.heap.objs.size) { s with heap:=s.heap.push { cls:=.type "tuple",data:=.seq (vs++ws).toArray } }) (hsz:vs.length+ws.length<=sizeLine):wpAny (model prog w) A (binaryOp .Add (.ref t) (.ref b)) Q E s:=by
 obtain ⟨⟨cls,dd,data,sl⟩,ho,hc,n,hd⟩:=id ht
 obtain ⟨⟨Nn,CQ,data2,Cn⟩,xx,wo,n2,hd2⟩:=id hb
 simp only at hc hd wo hd2
 subst hc hd wo hd2
 have e:vs.toArray++ws.toArray=(vs++ws).toArray:=by simp
 by_cases hw:ws = []
 ·exact Mr ⟨_,ho,rfl⟩ ⟨_,xx,rfl⟩ Ir Mj Uz Uw (Uu _ _)
   (tuple_addW1 t b vs.toArray ws.toArray n n2 dd CQ sl Cn (by simpa using hv) (by simp [hw])) ⟨ho,xx,h1 hw⟩
 ·refine Mr ⟨_,ho,rfl⟩ ⟨_,xx,rfl⟩ Ir Mj Uz Uw (Uu _ _)
   (tuple_addW2 t b vs.toArray ws.toArray n n2 dd CQ sl Cn (by simpa using hv) (by simpa using hw) (by rw [Qm,Qm]; exact hsz)) ⟨ho,xx,?_⟩
  rw [e]
  exact h2 hw
def cq (n d:Nat):Option Int->Nat
 | none=>d
 | some v=>if v < 0 then (v+(n:Int)).toNat else min v.toNat n
theorem nr (n d:Nat):cq n d none=d:=rfl
theorem qp (n d k:Nat):cq n d (some (k:Int))=min k n:=by
 show (if (k:Int) < 0 then ((k:Int)+(n:Int)).toNat else min (k:Int).toNat n)=min k n
 rw [if_neg (by omega),Yq]
theorem aGT (n d:Nat) (hd:d<=n) (o:Option Int):cq n d o<=n:=by
 cases o with
 | none=>exact hd
 | some v =>
  show (if v < 0 then (v+(n:Int)).toNat else min v.toNat n)<=n
  by_cases hv:v < 0
  ·rw [if_pos hv]; omega
  ·rw [if_neg hv]; exact Nat.min_le_right _ _
theorem UI (v:Int) (n d:Nat):(if v < 0 then max (v+(n:Int)) 0 else min v (n:Int))=((cq n d (some v):Nat):Int):=by
 show (if v < 0 then max (v+(n:Int)) 0 else min v (n:Int))=(((if v < 0 then (v+(n:Int)).toNat else min v.toNat n):Nat):Int)
 by_cases hv:v < 0
 ·simp only [if_pos hv]; omega
 ·simp only [if_neg hv]; omega
theorem aBa (lo hi:Option Int) (n:Nat):Builtin.Slice.sliceAdjust lo hi 1 (n:Int)=(((cq n 0 lo:Nat):Int),((cq n n hi:Nat):Int)):=by
 have h1:¬ ((1:Int) < 0):=by omega
 unfold Builtin.Slice.sliceAdjust
 simp only [h1,if_false]
 refine Prod.ext ?_ ?_
 ·cases lo with
  | none=>rfl
  | some v=>exact UI v n 0
 ·cases hi with
  | none=>rfl
  | some v=>exact UI v n n
theorem aBb (i j:Nat):Builtin.Slice.slicePlaces (i:Int) (j:Int) 1=j - i:=by
 unfold Builtin.Slice.slicePlaces
 have h1:(1:Int) > 0:=by omega
 simp only [h1,if_true,Ws]
 split <;> omega
theorem di {v:Value} {o:Option Int} {Q:Option Int->Shared->Prop} (p:IsPart v o) (h:Q o s):wpAny (model prog w) A (Builtin.Slice.slicePartIndex v) Q E s:=by
 cases p with
 | none=>exact slicePart_none h
 | int i t=>exact slicePart_int h
theorem fc {lo:Option Int} {Q:Int×Int×Nat->Shared->Prop} (hs:s.heap.IsSliceOf sl vl vu .none) (pl:IsPart vl lo) (pu:IsPart vu hi) (h:Q (((cq n 0 lo:Nat):Int),1,cq n n hi - cq n 0 lo) s):wpAny (model prog w) A (Builtin.Slice.sliceApplied (.ref sl) (pure (n:Int))) Q E s:=by
 obtain ⟨os,rf,wm,lj⟩:=id hs
 unfold Builtin.Slice.sliceApplied Builtin.Slice.sliceFields
 refine Ra (Ra (Rk rf lj (x:=vl) rfl (Ra (Rk rf lj (x:=vu) rfl (Ra (Rk rf lj (x:=.none) rfl (Rc ?_)))))))
 refine Ra (slicePart_none ?_)
 show wpAny _ _ (if ((1:Int)==0)=true then _ else _) _ _ s
 rw [if_neg (by decide)]
 refine Ra (di pl (Ra (di pu (Ra (Rc ?_)))))
 show wpAny _ _ (match Builtin.Slice.sliceAdjust lo hi 1 (n:Int) with | (lo,hi)=>pure (lo,(1:Int),Builtin.Slice.slicePlaces lo hi 1)) _ _ s
 rw [aBa lo hi n]
 show wpAny _ _ (pure (((cq n 0 lo:Nat):Int),(1:Int),Builtin.Slice.slicePlaces ((cq n 0 lo:Nat):Int) ((cq n n hi:Nat):Int) 1)) _ _ s
 rw [aBb]
 exact Rc h
theorem nv (xs:Array Value) (i k:Nat):((List.range k).filterMap λ(m:Nat)=>xs[((i:Int)+(m:Int)*1).toNat]?).toArray=((xs.toList.drop i).take k).toArray:=by
 have e:(λ(m:Nat)=>xs[((i:Int)+(m:Int)*1).toNat]?)=λm=>xs[i+m]?:=by
  funext m
  have:((i:Int)+(m:Int)*1).toNat=i+m:=by omega
  rw [this]
 rw [e]
 have:=pick_run xs i k
 rw [Wq] at this
 have e2:((λx=>xs[x]?) ∘ λx=>i+x)=λm=>xs[i+m]?:=rfl
 rw [e2] at this
 rw [this]
theorem ic {lo:Option Int} (ht:IsTup s.heap t items) (hs:s.heap.IsSliceOf sl vl vu .none) (pl:IsPart vl lo) (pu:IsPart vu hi) (hw:¬ (cq items.size 0 lo=0/\cq items.size items.size hi=items.size)) (h:Q (.ref s.heap.objs.size) { s with heap:=s.heap.push { cls:=.type "tuple",data:=.seq ((items.toList.drop (cq items.size 0 lo)).take (cq items.size items.size hi - cq items.size 0 lo)).toArray } }) (hsz:items.size<=sizeLine):wpAny (model prog w) A (getItem (.ref t) (.ref sl)) Q E s:=by
 have gz:sizeOk (.seq ((items.toList.drop (cq items.size 0 lo)).take (cq items.size items.size hi - cq items.size 0 lo)).toArray):=by
  show ((items.toList.drop (cq items.size 0 lo)).take (cq items.size items.size hi - cq items.size 0 lo)).toArray.size<=sizeLine
  rw [Qm,Ji,Xy,Array.length_toList]
  omega
 have hj:cq items.size items.size hi<=items.size:=aGT _ _ (Qh _) hi
 obtain ⟨os,rf,wm,lj⟩:=id hs
 have DM:s.TypeIs (.ref sl) "slice" := ⟨os,rf,wm⟩
 unfold getItem
 try with_reducible refine Rx ?_
 first | refine Ra (Rc ?_) | skip
 refine Ra (Il ht.typeIs (by decide) ?_)
 refine Ra (Rn (name:=Str.ofString "__getitem__") ht.typeIs PyProof.Rows.slot_tuple_getitem
  (Rz PyProof.Rows.slot_tuple_getitem ht.typeIs Vr ?_ (Ig _ _)))
 show wpAny _ _ (Builtin.Tuple.tupleItemsOf (.ref t) >>= _) _ _ s
 refine Ra (Ml ht ?_)
 refine Ra (Vh DM ?_)
 rw [if_pos (by decide)]
 refine Ra (fc hs pl pu ?_)
 have gx:¬ ((((cq items.size 0 lo:Nat):Int)==0 && (1:Int)==1 && (cq items.size items.size hi - cq items.size 0 lo)==items.size)=true):=by
  intro q
  rw [Jc,Jc] at q
  have q1:((cq items.size 0 lo:Nat):Int)=0:=eq_of_beq q.1.1
  have q2:cq items.size items.size hi - cq items.size 0 lo=items.size:=eq_of_beq q.2
  exact hw ⟨by omega,by omega⟩
 show wpAny _ _ (if (((cq items.size 0 lo:Nat):Int)==0 && (1:Int)==1 && (cq items.size items.size hi - cq items.size 0 lo)==items.size)=true then _ else _) _ _ s
 rw [if_neg gx,nv]
 first
  | exact Ra (m:=Builtin.Tuple.tupleExact _) (Rq (Rc ⟨_,rfl,Rc h⟩) gz)
  | exact Ra (m:=Builtin.Tuple.tupleExact _) (Rq (Ra (Rc (Rc ⟨_,rfl,Rc h⟩))) gz)
  | exact Ra (Ra (m:=Builtin.Tuple.tupleExact _) (Rq (Rc (Rc ⟨_,rfl,Rc h⟩)) gz))
  | exact Ra (Ra (m:=Builtin.Tuple.tupleExact _) (Rq (Rc ⟨_,rfl,Rc h⟩) gz))
end HT
namespace L2
open PySem PySem.Spec PyProof.Rows
abbrev TO:=St->Hp->(Option Int->Hp->Prop)->Prop
def PO (X:Cx) (e:Option Expr) (t:TO):Prop :=
 ∀ (aa:List (Addr×Obj)) (s:Shared) (σ:St) (H:Hp) (Q:Option Int->Hp->Prop),Inv X aa σ H s->t σ H Q ->
  wpAny (model X.prog X.w) X.A (evalPart e X.env) (λu s'=>∃ o H',Inv X aa σ H' s'/\IsPart u o/\Q o H') X.xe s
def xV:TO:=λ_ H Q=>Q none H
def K' (t:TE):TO:=λσ H Q=>t σ H λx H1=>∃ i,x=.int i/\Q (some i) H1
theorem pB:∀ {us:List Value},bH (ns.map V.int) us->IntsAre us ns:=by
 induction ns with
 | nil=>intro us r; rw [Xt] at r; cases r; exact .nil
 | cons n ns ih =>
  intro us r
  rw [Qz] at r
  cases r with
  | cons r1 r2 =>
   obtain ⟨t,e⟩:=r1
   subst e
   exact .cons n t (ih r2)
section
variable {lo hi:Option Expr} {tl th:TO}
theorem pS:PO X none xV:=by
 intro aa s σ H Q I h
 rw [Us]
 exact Rc ⟨none,H,I,.none,h⟩
theorem pT (h:PE X e te):PO X (some e) (K' te):=by
 intro aa s σ H Q I hw
 rw [Mm]
 refine bh (h aa s σ H _ I hw) λu s1 ay=>?_
 obtain ⟨x,H1,I1,r1,q1⟩:=ay
 obtain ⟨i,rfl,q⟩:=q1
 obtain ⟨t,rfl⟩:=r1
 exact ⟨some i,H1,I1,.int i t,q⟩
def El (X:Cx) (r:V->Option Int->Option Int->Hp->VK->Prop):Prop :=
 ∀ (aa:List (Addr×Obj)) (s:Shared) (σ:St) (H:Hp) (x:V) (v vl vu:Value) (lo hi:Option Int) (sl:Addr) (Q:VK),Inv X aa σ H s->bQ x v->s.heap.IsSliceOf sl vl vu .none->IsPart vl lo->IsPart vu hi->r x lo hi H Q ->
  ∃ T id,typeLookup (.type T) "__getitem__" = pure (some (.builtin id))/\s.TypeIs v T/\wpAny (model X.prog X.w) X.A (getItem v (.ref sl)) (EP X aa σ Q) X.xe s
def HB (r:V->Option Int->Option Int->Hp->VK->Prop) (te:TE) (tl th:TO):TE:=λσ H Q=>te σ H λx H1=>tl σ H1 λl H2=>th σ H2 λu H3=>r x l u H3 Q
theorem mQ {r:V->Option Int->Option Int->Hp->VK->Prop} (hr:El X r) (he:PE X e te) (hl:PO X lo tl) (hu:PO X hi th):PE X (.Subscript e (.Slice lo hi none p2) pos) (HB r te tl th):=by
 intro aa s σ H Q I h
 refine Vi (bh (he aa s σ H _ I h) λv s1 ay=>?_)
 obtain ⟨x,H1,I1,r1,q1⟩:=ay
 refine Mz (bh (hl aa s1 σ H1 _ I1 q1) λvl s2 ⟨l,H2,I2,pl,q2⟩=>bh (hu aa s2 σ H2 _ I2 q2) λvu s3 ay=>?_)
 obtain ⟨u,H3,I3,pu,q3⟩:=ay
 rw [Us]
 refine Rc ?_
 have I4:Inv X aa σ H3 { s3 with heap:=s3.heap.push { cls:=.type "slice",data:=.fields #[vl,vu,.none] } }:=I3.kept (t':=s3.toks) λb ob q=>Qc _ q
 obtain ⟨T,id,hT,ht,hg⟩:=hr aa { s3 with heap:=s3.heap.push { cls:=.type "slice",data:=.fields #[vl,vu,.none] } } σ H3 x v vl vu l u s3.heap.objs.size Q I4 r1 (Heap.IsSliceOf.new ..) pl pu q3
 show wpAny (model X.prog X.w) X.A (subscriptTail e (.Slice lo hi none p2) v (.ref s3.heap.objs.size)) (EP X aa σ Q) X.xe { s3 with heap:=s3.heap.push { cls:=.type "slice",data:=.fields #[vl,vu,.none] } }
 exact tail_any (ops:=[.ref s3.heap.objs.size,v]) ht hT hg (by with_unfolding_all rfl)
def pU (xs:List V) (lo hi:Option Int):List V:=(xs.drop (HT.cq xs.length 0 lo)).take (HT.cq xs.length xs.length hi - HT.cq xs.length 0 lo)
theorem sB (xs:List V) (lo hi:Option Int):(pU xs lo hi).length<=xs.length:=by
 unfold pU
 rw [Ji,Xy]
 exact Ja (Nat.min_le_right _ _) (Nat.sub_le _ _)
def V? (K:Rb):V->Option Int->Option Int->Hp->VK->Prop:=λx lo hi H Q=>∃ a xs,x=.ref a/\aq K H a xs /\
 ¬ (HT.cq xs.length 0 lo=0/\HT.cq xs.length xs.length hi=xs.length)/\∀ p,H p=none->Q (.ref p) (upd H p (.tup (pU xs lo hi)))
theorem aGU:El X (V? X.K):=by
 intro aa s σ H x v vl vu lo hi sl Q I rx hs pl pu h
 obtain ⟨a,xs,rfl,hx,hw,q⟩:=h
 cases rx
 obtain ⟨ag,r,ht,hz⟩:=I.tuple hx
 have hlen:ag.toArray.size=xs.length:=by rw [Qm]; exact r.length.symm
 refine ⟨"tuple",_,PyProof.Rows.slot_tuple_getitem.lookup,ht.typeIs,?_⟩
 refine HT.ic ht hs pl pu (by rw [hlen]; exact hw) ?_ (by rw [hlen]; exact hz)
 rw [hlen]
 refine ⟨.ref s.heap.objs.size,_,I.laid (t':=s.toks) (o:=.tup (pU xs lo hi)) (λb ob q=>Qc _ q) (Qh _) ?_,rfl,q _ (I.ax.fresh (Qh _))⟩
 exact ⟨Ja (sB xs lo hi) hz,_,0,(r.drop (HT.cq xs.length 0 lo)).take (HT.cq xs.length xs.length hi - HT.cq xs.length 0 lo),Qj _ rfl⟩
def aHK (K:Rb):R2:=λx y H Q=>∃ a b xs ys,x=.ref a/\y=.ref b/\aq K H a xs/\aq K H b ys/\xs≠[]/\xs.length+ys.length<=sizeLine /\
 (ys = []->Q (.ref a) H)/\(ys≠[]->∀ p,H p=none->Q (.ref p) (upd H p (.tup (xs++ys))))
theorem bH.k7 (r:bH xs us):us = []↔xs = []:=by
 cases r with
 | nil=>simp
 | cons _ _=>simp
theorem aFa:fm X (binaryOp .Add) (aHK X.K):=by
 intro aa s σ H x y v u Q I rx ry h
 obtain ⟨a,b,xs,ys,rfl,rfl,ha,hb,hx,hz,q1,q2⟩:=h
 cases rx
 cases ry
 obtain ⟨ag,r1,p1,_⟩:=I.tuple ha
 obtain ⟨j7,r2,p2,_⟩:=I.tuple hb
 refine HT.y9 p1 p2 (λz=>hx (r1.k7.mp z)) (λz=>⟨.ref a,H,I,rfl,q1 (r2.k7.mp z)⟩) (λz=>?_) (by rw [<- r1.length,<- r2.length]; exact hz)
 refine ⟨.ref s.heap.objs.size,_,I.laid (t':=s.toks) (o:=.tup (xs++ys)) (λb ob q=>Qc _ q) (Qh _) ?_,rfl,q2 (λw=>z (r2.k7.mpr w)) _ (I.ax.fresh (Qh _))⟩
 exact ⟨by rw [Qg]; exact hz,_,0,r1.append r2,Qj _ rfl⟩
end
def xt (n:Nat) (i:Int):Option Nat:=if 0<=i then (if i < n then some i.toNat else none) else if -(n:Int)<=i then some (i+n).toNat else none
def qj (xs:List α) (i:Int):Option α:=(xt xs.length i).bind λj=>xs[j]?
theorem xW {i:Int} (h:xt n i=some j):seqIndex? i n=some j/\j < n/\-(n:Int)<=i/\i < n:=by
 unfold xt at h
 by_cases h0:0<=i
 ·rw [if_pos h0] at h
  by_cases h1:i < n
  ·rw [if_pos h1] at h
   have e:i.toNat=j:=Option.some.inj h
   exact ⟨by rw [Raa h0 h1,e],by omega,by omega,h1⟩
  ·rw [if_neg h1] at h; cases h
 ·rw [if_neg h0] at h
  by_cases h1:-(n:Int)<=i
  ·rw [if_pos h1] at h
   have e:(i+n).toNat=j:=Option.some.inj h
   exact ⟨by rw [Ms (by omega) h1,e],by omega,h1,by omega⟩
  ·rw [if_neg h1] at h; cases h
theorem UH {xs:List α} {i:Int} {v:α} (h:qj xs i=some v):∃ j,seqIndex? i xs.length=some j/\xs[j]?=some v/\j < xs.length/\-(xs.length:Int)<=i/\i < xs.length:=by
 unfold qj at h
 cases e:xt xs.length i with
 | none=>rw [e] at h; cases h
 | some j =>
  rw [e] at h
  obtain ⟨h1,h2,h3,h4⟩:=xW e
  exact ⟨j,h1,h,h2,h3,h4⟩
theorem gA {xs:List α} {v:α} (h:xs[j]?=some v):qj xs (j:Int)=some v:=by
 have hj:j < xs.length:=(Qa.mp h).1
 have e:xt xs.length (j:Int)=some j:=by
  unfold xt
  rw [if_pos (by omega),if_pos (by omega)]; simp
 unfold qj; rw [e]; exact h
def aFb (b:Expr):Prop:=∀ o i,subscripted b false o i=operate [o,i] (getItem o i)
def Ez (X:Cx) (r:R2):Prop :=
 ∀ (value slice:Expr) (aa:List (Addr×Obj)) (s:Shared) (σ:St) (H:Hp) (x y:V) (v u:Value) (Q:VK),Inv X aa σ H s->bQ x v->bQ y u->r x y H Q ->
  subscripted slice false v u=operate [v,u] (getItem v u)->wpAny (model X.prog X.w) X.A (subscriptTail value slice v u) (EP X aa σ Q) X.xe s
def ym (X:Cx) (id:String) (r:V->List V->Hp->VK->Prop):Prop :=
 ∀ (aa:List (Addr×Obj)) (s:Shared) (σ:St) (H:Hp) (x:V) (xs:List V) (v:Value) (us:List Value) (Q:VK),Inv X aa σ H s->bQ x v->bH xs us->r x xs H Q ->
  wpAny (model X.prog X.w) X.A (call (.builtin id) (v::us)) (EP X aa σ Q) X.xe s
section
variable {a b:Expr}
theorem bM (hr:Ez X r) (ha:PE X a ta) (hb:PE X b tb) (hs:aFb b):PE X (.Subscript a b pos) (xf r ta tb):=by
 intro aa s σ H Q I h
 exact Vi (K2 ha hb I h λv u s2 x y H2 I2 rx ry q=>hr a b aa s2 σ H2 x y v u Q I2 rx ry q (hs _ _))
def RZ (K:Rb):R2:=λx y H Q=>∃ p xs i v,x=.ref p/\y=.int i/\au K H p xs/\qj xs i=some v/\Q v H
def RY (K:Rb):R2:=λx y H Q=>∃ p xs i v,x=.ref p/\y=.int i/\aq K H p xs/\qj xs i=some v/\Q v H
theorem cM:Ez X (RZ X.K):=by
 intro value slice aa s σ H x y v u Q I rx ry h hs
 obtain ⟨p,xs,i,z,rfl,rfl,hq,he,q⟩:=h
 cases rx
 obtain ⟨t,rfl⟩:=ry
 obtain ⟨ag,r,pl,hz⟩:=I.list hq
 obtain ⟨j,h1,h2,h3,h4,h5⟩:=UH he
 obtain ⟨w,ew,fu⟩:=r.get h2
 have hl:=r.length
 have hn:=tP
 have fin:EP X aa σ Q w s:=⟨z,H,I,fu,q⟩
 by_cases h0:0<=i
 ·have hj:i.toNat=j:=by
   rw [Raa h0 h5] at h1
   exact Option.some.inj h1
  exact item_listR pl.isList h0 (by omega) (by rw [hj]; simpa using ew) fin hs
 ·have hj:(i+(ag.toArray.size:Int)).toNat=j:=by
   rw [Ms (by omega) h4] at h1
   rw [Qm,<- hl]
   exact Option.some.inj h1
  exact Ul (x:=w) pl.isList.typeIs slot_list_getitem.lookup
   (wpAny_getItem_list_neg (Q:=λr s'=>r=w/\EP X aa σ Q r s') pl.isList (by omega) (by rw [Qm] <;> omega) (by omega) (by rw [hj]; simpa using ew) ⟨rfl,fin⟩) hs
theorem cC:Ez X (RY X.K):=by
 intro value slice aa s σ H x y v u Q I rx ry h hs
 obtain ⟨p,xs,i,z,rfl,rfl,hq,he,q⟩:=h
 cases rx
 obtain ⟨t,rfl⟩:=ry
 obtain ⟨ag,r,pl,hz⟩:=I.tuple hq
 obtain ⟨j,h1,h2,h3,h4,h5⟩:=UH he
 obtain ⟨w,ew,fu⟩:=r.get h2
 have hl:=r.length
 have hn:=tP
 have fin:EP X aa σ Q w s:=⟨z,H,I,fu,q⟩
 exact Ul (x:=w) pl.typeIs slot_tuple_getitem.lookup
  (getItem_tuple (j:=j) (Q:=λr s'=>r=w/\EP X aa σ Q r s') pl (by omega) (by omega) (by rw [Qm,<- hl]; exact h1) (by simpa using ew) ⟨rfl,fin⟩) hs
theorem aBc (ag:List Value) (n j:Nat) (u:Value):Obj.mapSeq (·.setIfInBounds j u) { cls:=.type "list",data:=.seq ag.toArray n }={ cls:=.type "list",data:=.seq (ag.set j u).toArray n }:=by
 simp [Obj.mapSeq]
theorem Inv.lst {σ:St} (I:Inv X aa σ H s) (h:H p=some (.lst xs)) :
  ∃ (ag:List Value) (n:Nat),bH xs ag/\s.heap.get? p=some { cls:=.type "list",data:=.seq ag.toArray n }/\xs.length<=sizeLine:=by
 obtain ⟨z,ag,n,r,e⟩:=I.ax p _ h
 exact ⟨ag,n,r,e,z⟩
theorem Inv.Cb {σ:St} {its':List Value} {n':Nat} {f:Obj->Obj} (I:Inv X aa σ H s) (h:H p=some (.lst xs)) (ho:s.heap.get? p=some { cls:=.type "list",data:=.seq ag.toArray n }) (hf:f { cls:=.type "list",data:=.seq ag.toArray n }={ cls:=.type "list",data:=.seq its'.toArray n' }) (r:bH ys its') (hz:ys.length<=sizeLine) (t:Nat) :
  Inv X aa σ (upd H p (.lst ys)) { s with heap:=s.heap.update p f,toks:=t }:=by
 have e:(s.heap.update p f).get? p=some { cls:=.type "list",data:=.seq its'.toArray n' }:=by
  rw [Za f ho (by rw [hf] <;> rfl),hf]
 refine I.write (x:=p) (e:=p) (by rw [h]; trivial) (.inl rfl) (λb u hb q=>(Jq _ _ (Ne.symm hb)).trans q) ⟨_,e⟩ ?_
 exact ⟨hz,its',n',r,e⟩
def aHN:V->V->V->Hp->(Hp->Prop)->Prop:=λo i v H Q=>∃ p xs k j,o=.ref p/\i=.int k/\H p=some (.lst xs)/\xt xs.length k=some j/\Q (upd H p (.lst (xs.set j v)))
theorem pV:R_ X aHN:=by
 intro aa s σ H o i v ov iv u Q I ro ri rv h
 obtain ⟨p,xs,k,j,rfl,rfl,hp,hj,q⟩:=h
 cases ro
 obtain ⟨t,rfl⟩:=ri
 obtain ⟨ag,n,r,ho,hz⟩:=I.lst hp
 obtain ⟨h1,h2,h3,h4⟩:=xW hj
 have hl:=r.length
 have hn:=tP
 have I':Inv X aa σ (upd H p (.lst (xs.set j v))) { s with heap:=s.heap.update p (Obj.mapSeq (·.setIfInBounds j u)) } :=
  I.Cb hp ho (aBc ag n j u) (r.set rv j) (by rw [Zk]; exact hz) s.toks
 by_cases h0:0<=k
 ·have hk:k.toNat=j:=by
   rw [Raa h0 h4] at h1
   exact Option.some.inj h1
  exact PySem.W.ki_setAt ho h0 (by omega) (by rw [Qm,<- hl]; exact h4) (by rw [hk]; exact ⟨_,I',q⟩)
 ·have hk:(k+(ag.toArray.size:Int)).toNat=j:=by
   rw [Ms (by omega) h3] at h1
   rw [Qm,<- hl]
   exact Option.some.inj h1
  exact PySem.W.ki_setBack ho (by omega) (by rw [Qm,<- hl]; exact h3) (by omega) (by rw [hk]; exact ⟨_,I',q⟩)
theorem xX (lo hi:Option Int) (n:Nat):(sliceBounds lo hi none n).1=((HT.cq n 0 lo:Nat):Int)/\(sliceBounds lo hi none n).2.1=((HT.cq n n hi:Nat):Int)/\(sliceBounds lo hi none n).2.2=1:=by
 refine ⟨?_,?_,rfl⟩
 ·cases lo with
  | none=>simp [sliceBounds,HT.cq]
  | some i =>
   simp only [sliceBounds,HT.cq,Wv,show (1:Int) > 0 by decide,if_true]
   by_cases h:i < 0
   ·simp only [h,if_true] <;> omega
   ·simp only [h,if_false] <;> omega
 ·cases hi with
  | none=>simp [sliceBounds,HT.cq]
  | some i =>
   simp only [sliceBounds,HT.cq,Wv,show (1:Int) > 0 by decide,if_true]
   by_cases h:i < 0
   ·simp only [h,if_true] <;> omega
   ·simp only [h,if_false] <;> omega
theorem wB (ag:List Value) (lo hi:Option Int):slicePick ag.toArray lo hi none=((ag.drop (HT.cq ag.length 0 lo)).take (HT.cq ag.length ag.length hi - HT.cq ag.length 0 lo)).toArray:=by
 obtain ⟨h1,h2,h3⟩:=xX lo hi ag.toArray.size
 unfold slicePick
 rw [h1,h2,h3]
 simp only [sliceRange_one,pick_run,Qm] <;> rfl
def V! (K:Rb):V->Option Int->Option Int->Hp->VK->Prop:=λx lo hi H Q=>∃ a xs,x=.ref a/\au K H a xs/\∀ p,H p=none->Q (.ref p) (upd H p (.lst (pU xs lo hi)))
theorem UG:El X (V! X.K):=by
 intro aa s σ H x v vl vu lo hi sl Q I rx hs pl pu h
 obtain ⟨a,xs,rfl,hx,q⟩:=h
 cases rx
 obtain ⟨ag,r,ht,hz⟩:=I.list hx
 have hlen:=r.length
 refine ⟨"list",_,slot_list_getitem.lookup,ht.isList.typeIs,?_⟩
 refine Mn ht.isList hs pl pu .none (by simp) ?_ (by rw [Qm] <;> omega)
 rw [wB,<- hlen]
 refine ⟨.ref s.heap.objs.size,_,I.laid (t':=s.toks) (o:=.lst (pU xs lo hi)) (λb ob q=>Qc _ q) (Qh _) ?_,rfl,q _ (I.ax.fresh (Qh _))⟩
 exact ⟨Ja (sB xs lo hi) hz,_,0,(r.drop (HT.cq xs.length 0 lo)).take (HT.cq xs.length xs.length hi - HT.cq xs.length 0 lo),Qj _ rfl⟩
def pW:V->Bool
 | .br=>true
 | .bl _=>true
 | .int _=>true
 | .str _=>true
 | _=>false
def Aa:V->V->Bool
 | .br,.br=>true
 | .bl a,.bl b=>a==b
 | .bl a,.int b=>(if a then 1 else 0)==b
 | .int a,.bl b=>a==(if b then 1 else 0)
 | .int a,.int b=>a==b
 | .str a,.str b=>a==b
 | _,_=>false
theorem aGV {x:V} {v:Value} (ry:bQ y u) (rx:bQ x v) (fy:pW y=true) (fx:pW x=true):SeqAt.EqAt A s u v (Aa y x):=by
 cases y with
 | br =>
  cases ry
  cases x with
  | br=>cases rx; exact SeqAt.EqAt.same _
  | bl b=>cases rx; exact SeqAt.EqAt.none_bool b
  | int b=>obtain ⟨t,rfl⟩:=rx; exact SeqAt.EqAt.none_int b t
  | str b=>obtain ⟨t,rfl⟩:=rx; exact SeqAt.EqAt.none_str b t
  | _=>exact absurd (show false=true from fx) Qu
 | bl a =>
  cases ry
  cases x with
  | br=>cases rx; exact SeqAt.EqAt.bool_none a
  | bl b=>cases rx; exact SeqAt.EqAt.bool_bool a b
  | int b=>obtain ⟨t,rfl⟩:=rx; exact SeqAt.EqAt.bool_int a b t
  | str b=>obtain ⟨t,rfl⟩:=rx; exact SeqAt.EqAt.bool_str a b t
  | _=>exact absurd (show false=true from fx) Qu
 | int a =>
  obtain ⟨t',rfl⟩:=ry
  cases x with
  | br=>cases rx; exact SeqAt.EqAt.int_none a t'
  | bl b=>cases rx; exact SeqAt.EqAt.int_bool a t' b
  | int b=>obtain ⟨t,rfl⟩:=rx; exact SeqAt.EqAt.int_int a t' b t
  | str b=>obtain ⟨t,rfl⟩:=rx; exact SeqAt.EqAt.int_str a t' b t
  | _=>exact absurd (show false=true from fx) Qu
 | str a =>
  obtain ⟨t',rfl⟩:=ry
  cases x with
  | br=>cases rx; exact SeqAt.EqAt.str_none a t'
  | bl b=>cases rx; exact SeqAt.EqAt.str_bool a t' b
  | int b=>obtain ⟨t,rfl⟩:=rx; exact SeqAt.EqAt.str_int a t' b t
  | str b=>obtain ⟨t,rfl⟩:=rx; exact SeqAt.EqAt.str_str a t' b t
  | _=>exact absurd (show false=true from fx) Qu
 | _=>exact absurd (show false=true from fy) Qu
def o6 (x:V) (u:Value):Bool:=match u with
 | .none=>Aa .br x
 | .bool b=>Aa (.bl b) x
 | .int i _=>Aa (.int i) x
 | .str z _=>Aa (.str z) x
 | _=>false
theorem SU {x:V} (r:bQ y u) (f:pW y=true):o6 x u=Aa y x:=by
 cases y with
 | br=>cases r; rfl
 | bl b=>cases r; rfl
 | int i=>obtain ⟨t,rfl⟩:=r; rfl
 | str z=>obtain ⟨t,rfl⟩:=r; rfl
 | _=>exact absurd (show false=true from f) Qu
theorem sQ {x:V}:∀ {xs:List V} {us:List Value},bH xs us->xs.all pW=true->us.any (o6 x)=xs.any λy=>Aa y x
 := by
 intro xs us h
 induction h with
 | nil=>intro _; rfl
 | cons r t ih =>
  intro f
  rw [List.all_cons,Jc] at f
  rw [Yb,Yb,SU r f.1,ih f.2]
theorem mR {x:V} {v:Value} (rx:bQ x v) (fx:pW x=true):∀ {xs:List V} {us:List Value},bH xs us->xs.all pW=true->∀ u∈us,SeqAt.EqAt A s u v (o6 x u)
 | _,_,.nil,_=>λu hu=>by cases hu
 | y::xs,u::us,.cons r t,f=>λu' hu=>by
  rw [List.all_cons,Jc] at f
  rcases Ql.mp hu with rfl | hu
  ·rw [SU r f.1]; exact aGV r rx f.1 fx
  ·exact mR rx fx t f.2 u' hu
def uf (x:V) (xs:List V):Bool:=xs.any λy=>Aa y x
def Dd (K:Rb) (neg:Bool):R2:=λx y H Q=>∃ p xs,y=.ref p/\(au K H p xs∨aq K H p xs)/\pW x=true/\xs.all pW=true/\Q (.bl (if neg then !uf x xs else uf x xs)) H
theorem aCJ:fm X (compareOp .In) (Dd X.K false):=by
 intro aa s σ H x y v u Q I rx ry h
 obtain ⟨p,xs,rfl,hq,fx,fs,q⟩:=h
 cases ry
 rcases hq with hq | hq
 ·obtain ⟨ag,r,pl,hz⟩:=I.list hq
  refine SeqAt.in_listAt (o6 x) pl.isList (λw hw=>mR rx fx r fs w (by simpa using hw)) ⟨.bl _,H,I,rfl,?_⟩
  rw [show ag.toArray.any (o6 x)=ag.any (o6 x) by simp,sQ r fs]
  exact q
 ·obtain ⟨ag,r,pl,hz⟩:=I.tuple hq
  refine SeqAt.in_tupleAt (o6 x) pl (λw hw=>mR rx fx r fs w (by simpa using hw)) ⟨.bl _,H,I,rfl,?_⟩
  rw [show ag.toArray.any (o6 x)=ag.any (o6 x) by simp,sQ r fs]
  exact q
theorem xY:fm X (compareOp .NotIn) (Dd X.K true):=by
 intro aa s σ H x y v u Q I rx ry h
 obtain ⟨p,xs,rfl,hq,fx,fs,q⟩:=h
 cases ry
 rcases hq with hq | hq
 ·obtain ⟨ag,r,pl,hz⟩:=I.list hq
  refine SeqAt.notIn_listAt (o6 x) pl.isList (λw hw=>mR rx fx r fs w (by simpa using hw)) ⟨.bl _,H,I,rfl,?_⟩
  rw [show ag.toArray.any (o6 x)=ag.any (o6 x) by simp,sQ r fs]
  exact q
 ·obtain ⟨ag,r,pl,hz⟩:=I.tuple hq
  refine SeqAt.notIn_tupleAt (o6 x) pl (λw hw=>mR rx fx r fs w (by simpa using hw)) ⟨.bl _,H,I,rfl,?_⟩
  rw [show ag.toArray.any (o6 x)=ag.any (o6 x) by simp,sQ r fs]
  exact q
theorem bB:eT X (.builtin "len") (λxs H Q=>∃ p ys,xs = [.ref p]/\(au X.K H p ys∨aq X.K H p ys)/\Q (.int ys.length) H):=by
 intro aa s σ H xs us Q I r h
 obtain ⟨p,ys,rfl,hq,q⟩:=h
 obtain ⟨u,rfl,rx⟩:=iA r
 cases rx
 have hn:=tP
 rcases hq with hq | hq
 ·obtain ⟨ag,r',pl,hz⟩:=I.list hq
  have hlen:=r'.length
  exact Calls.call_len_list pl.isList (by simp only [Qm] <;> omega) ⟨.int ys.length,H,I.tok _,⟨s.toks+1,by rw [Qm,hlen]⟩,q⟩
 ·obtain ⟨ag,r',pl,hz⟩:=I.tuple hq
  have hlen:=r'.length
  exact len_tuple pl (by simp only [Qm] <;> omega) ⟨.int ys.length,H,I.tok _,⟨s.toks+1,by rw [Qm,hlen]⟩,q⟩
theorem pX:eT X (.type "list") (λxs H Q=>∃ p ys,xs = [.ref p]/\(au X.K H p ys∨aq X.K H p ys)/\∀ l,H l=none->Q (.ref l) (upd H l (.lst ys))):=by
 intro aa s σ H xs us Q I r h
 obtain ⟨p,ys,rfl,hq,q⟩:=h
 obtain ⟨u,rfl,rx⟩:=iA r
 cases rx
 have fin:∀ (ag:List Value),bH ys ag->ys.length<=sizeLine->∀ (h':Heap) (c':Nat),(∀ b o',s.heap.get? b=some o'->h'.get? b=some o') ->
   h'.get? s.heap.objs.size=some { cls:=.type "list",dict:=none,data:=.seq ag.toArray c',slots:=#[] }->EP X aa σ Q (.ref s.heap.objs.size) { s with heap:=h' }:=λag r' hz h' c' kp e =>
  ⟨.ref s.heap.objs.size,_,I.laid (t':=s.toks) kp (Qh _) (show bR X.prog X.w _ h' _ (.lst ys) from ⟨hz,ag,c',r',e⟩),rfl,q _ (I.ax.fresh (Qh _))⟩
 rcases hq with hq | hq
 ·obtain ⟨ag,r',pl,hz⟩:=I.list hq
  have hlen:=r'.length
  obtain ⟨o,ho,hc,n,hd⟩:=pl.isList
  exact call_list_seq p (.inl rfl) ho hc hd (λh' c' kp e=>fin ag r' hz h' c' kp e) (by simp only [Qm] <;> omega)
 ·obtain ⟨ag,r',pl,hz⟩:=I.tuple hq
  have hlen:=r'.length
  obtain ⟨o,ho,hc,n,hd⟩:=pl
  exact call_list_seq p (.inr rfl) ho hc hd (λh' c' kp e=>fin ag r' hz h' c' kp e) (by simp only [Qm] <;> omega)
theorem iW:eT X (.type "tuple") (λxs H Q=>∃ p ys,xs = [.ref p]/\((au X.K H p ys/\∀ l,H l=none->Q (.ref l) (upd H l (.tup ys)))∨(aq X.K H p ys/\Q (.ref p) H))):=by
 intro aa s σ H xs us Q I r h
 obtain ⟨p,ys,rfl,h⟩:=h
 obtain ⟨u,rfl,rx⟩:=iA r
 cases rx
 rcases h with ⟨hq,q⟩ | ⟨hq,q⟩
 ·obtain ⟨ag,r',pl,hz⟩:=I.list hq
  have hlen:=r'.length
  refine call_tuple_list pl.isList (λh' kp=>?_) (by simp only [Qm] <;> omega)
  have I1:Inv X aa σ H { s with heap:=h' }:=I.kept (t':=s.toks) kp
  have I2:Inv X aa σ (upd H h'.objs.size (.tup ys)) { s with heap:=h'.push { cls:=.type "tuple",data:=.seq ag.toArray } } :=
   I1.laid (t':=s.toks) (λb o e=>Qc _ e) (Qh _) (show bR X.prog X.w _ _ _ (.tup ys) from ⟨hz,ag,0,r',Qj _ rfl⟩)
  exact ⟨.ref h'.objs.size,_,I2,rfl,q _ (I1.ax.fresh (Qh _))⟩
 ·obtain ⟨ag,r',pl,hz⟩:=I.tuple hq
  exact call_tuple_same pl ⟨.ref p,H,I,rfl,q⟩
def Hx (K:Rb) (T:String) (x:V) (H:Hp):Prop:=match x with
 | .str _=>T = "str"
 | .int _=>T = "int"
 | .ref p => (T = "list" /\ ∃ xs, au K H p xs) ∨ (T = "tuple" /\ ∃ xs, aq K H p xs) ∨
     (T = "dict" /\ ((∃ kvs,H p=some (.dK kvs))∨∃ kvs,H p=some (.dT kvs)))∨(T = "set" /\ ∃ S n,H p=some (.set S n))
 | _=>False
theorem SR {σ:St} {x:V} {v:Value} (I:Inv X aa σ H s) (r:bQ x v) (ty:Hx X.K T x H) :
  s.TypeIs v T/\∀ a,v=.ref a->∃ ob,s.heap.get? a=some ob/\ob.dict=none:=by
 cases x with
 | str z =>
  obtain ⟨t,rfl⟩:=r
  cases (show T = "str" from ty)
  exact ⟨typeIs_str s z t,λ_ e=>nomatch e⟩
 | int i =>
  obtain ⟨t,rfl⟩:=r
  cases (show T = "int" from ty)
  exact ⟨Rad s i t,λ_ e=>nomatch e⟩
 | ref p =>
  cases r
  rcases ty with ⟨rfl,xs,hq⟩ | ⟨rfl,xs,hq⟩ | ⟨rfl,hk⟩ | ⟨rfl,S,n,hk⟩
  ·obtain ⟨ag,_,pl,_⟩:=I.list hq
   refine ⟨pl.isList.typeIs,λa e=>?_⟩
   cases e
   obtain ⟨o,n,e,c,hd,_⟩:=pl
   exact ⟨o,e,hd⟩
  ·obtain ⟨o,e,hc,hd⟩:∃ o,s.heap.get? p=some o/\o.cls=.type "tuple" /\ o.dict=none:=by
    rcases hq with hq | ⟨o,_,_,hk,hc,hd,_⟩
    ·obtain ⟨_,ag,n,_,e⟩:=hq.ok I.ax
     exact ⟨_,e,rfl,rfl⟩
    ·exact ⟨o,I.i_ p o hk,hc,hd⟩
   refine ⟨⟨o,e,hc⟩,λa e2=>?_⟩
   cases e2
   exact ⟨o,e,hd⟩
  ·have z:∃ o,s.heap.get? p=some o/\o.ExactDict:=by
    rcases hk with ⟨kvs,hk⟩ | ⟨kvs,hk⟩
    ·obtain ⟨_,_,_,_,o,_,_,e,ex,_⟩:=I.ax p _ hk
     exact ⟨o,e,ex⟩
    ·obtain ⟨_,_,_,_,o,_,_,e,ex,_⟩:=I.ax p _ hk
     exact ⟨o,e,ex⟩
   obtain ⟨o,e,ex⟩:=z
   refine ⟨⟨o,e,ex.1⟩,λa e2=>?_⟩
   cases e2
   exact ⟨o,e,ex.2.1⟩
  ·obtain ⟨o,_,_,_,e,ex,_⟩:=I.ax p _ hk
   refine ⟨⟨o,e,ex.1⟩,λa e2=>?_⟩
   cases e2
   exact ⟨o,e,ex.2.1⟩
 | _=>exact False.elim ty
def U? (K:Rb) (T:String) (r:V->List V->Hp->VK->Prop) (to:TE):TE:=λσ H Q=>to σ H λx H1=>Hx K T x H1/\r x [] H1 Q
def FG (K:Rb) (T:String) (r:V->List V->Hp->VK->Prop) (to:TE) (t:TA):TE:=λσ H Q=>to σ H λx H1=>Hx K T x H1/\t σ H1 λxs H2=>r x xs H2 Q
variable {o:Expr} {t:TA} {id:String} {r:V->List V->Hp->VK->Prop}
theorem tU (pa:PlainAttrs T) (slot:Slot T name id) (Ct:typeOf (.builtin id)=pure (.type "method_descriptor")) (hm:ym X id r) (ho:PE X o to)
  (ni:attributeBase o name X.env (eval o X.env)=eval o X.env:=by rfl) (m8:(apos.endLine==c_.line)=true:=by rfl):PE X (.Call (.Attribute o name apos) [] [] c_) (U? X.K T r to):=by
 intro aa s σ H Q I h
 refine wpAny_Call_method0_late ni m8 (bh (ho aa s σ H _ I h) λv s1 ay=>?_)
 obtain ⟨x,H1,I1,r1,ty,q1⟩:=ay
 obtain ⟨h1,h2⟩:=SR I1 r1 ty
 exact ⟨T,id,pa,slot,Ct,h1,h2,Calls.callWith_builtin rfl (PySem.evalArgs_none (hm aa s1 σ H1 x [] v [] Q I1 r1 .nil q1))⟩
theorem kI (pa:PlainAttrs T) (slot:Slot T name id) (Ct:typeOf (.builtin id)=pure (.type "method_descriptor")) (hm:ym X id r) (ho:PE X o to) (ha:PA X (e::es) t)
  (ni:attributeBase o name X.env (eval o X.env)=eval o X.env:=by rfl)
  (BY:((backTo c_ (starEach (e::es) X.env)).all (λx=>!x.1) && (backToKw c_ (keywordEach [] X.env)).all (λx=>x.1.isSome)
   && decide ((e::es).length+([]:List Keyword).length+(if ([]:List Keyword).isEmpty then 0 else 1) < 30))=true:=by rfl)
  (m8:(apos.endLine==c_.line)=true:=by rfl) (hs:starEach (e::es) X.env=(false,eval e X.env)::starEach es X.env:=by rfl) (pk:(backTo c_ (starEach es X.env)).any (·.1)=false:=by rfl) :
  PE X (.Call (.Attribute o name apos) (e::es) [] c_) (FG X.K T r to t):=by
 intro aa s σ H Q I h
 refine wpAny_Call_method_late ni BY m8 rfl (bh (ho aa s σ H _ I h) λv s1 ay=>?_)
 obtain ⟨x,H1,I1,r1,ty,q1⟩:=ay
 obtain ⟨h1,h2⟩:=SR I1 r1 ty
 refine ⟨T,id,pa,slot,Ct,h1,h2,?_⟩
 have hA:=ha c_ aa s1 σ H1 _ I1 q1
 rw [hs] at hA ⊢
 refine Calls.callWith_builtin (by show (false || (backTo c_ (starEach es X.env)).any (·.1))=false; rw [pk] <;> rfl) (Calls.evalArgs_plain ?_)
 refine bh hA λus s2 ay=>?_
 obtain ⟨vs,H2,I2,r2,q2⟩:=ay
 exact hm aa s2 σ H2 x vs v us Q I2 r1 r2 q2
end
def V2 (X:Cx) (id:String) (r:V->List V->Hp->VK->Prop):Prop :=
 ∀ (aa:List (Addr×Obj)) (s:Shared) (σ:St) (H:Hp) (x:V) (xs:List V) (v:Value) (us:List Value) (Q:VK),Inv X aa σ H s->bQ x v->bH xs us->r x xs H Q ->
  wpAny (model X.prog X.w) X.A (call (.builtin id) (v::us)) (EP X aa σ Q) X.xe s
theorem bH.one {x:V} (r:bH [x] us):∃ u,us = [u]/\bQ x u:=iA r
theorem bH.eraseIdx:∀ {xs:List V} {us:List Value} (i:Nat),bH xs us->bH (xs.eraseIdx i) (us.eraseIdx i)
 | _,_,_,.nil=>.nil
 | _,_,0,.cons _ t=>t
 | _,_,i+1,.cons r t=>.cons r (bH.eraseIdx i t)
theorem bH.reverse (h:bH xs us):bH xs.reverse us.reverse:=by
 induction h with
 | nil=>exact .nil
 | cons r t ih=>rw [Zr,Zr]; exact bH.append ih (.cons r .nil)
theorem bH.rep (h:bH xs us):∀ k:Nat,bH (List.replicate k xs).flatten (List.replicate k us).flatten
 | 0=>.nil
 | k+1=>by
  rw [Xc,Xc,Ze,Ze]
  exact bH.append h (bH.rep h k)
theorem pC (l:List α):l.eraseIdx (l.length - 1)=l.dropLast:=by
 induction l with
 | nil=>rfl
 | cons a r ih =>
  cases r with
  | nil=>rfl
  | cons b r =>
   have e:(a::b::r).length - 1=((b::r).length - 1)+1:=by
    have h1:(a::b::r).length=r.length+2:=rfl
    have h2:(b::r).length=r.length+1:=rfl
    omega
   rw [e,Xw,ih]
   all_goals rfl
theorem wS:∀ (l:List α) (i:Nat),(l.eraseIdx i).length<=l.length
 | [],_=>Qh _
 | _::_,0=>Yc _
 | _::r,i+1=>Zx (wS r i)
theorem wT (ag:List Value):∀ (k:Nat) (acc:List Value),
  List.foldl (λx1 x2=>x1++x2) acc.toArray (List.replicate k ag.toArray)=(acc++(List.replicate k ag).flatten).toArray
 | 0,acc=>by simp
 | k+1,acc=>by
  have e:acc.toArray++ag.toArray=(acc++ag).toArray:=by simp
  have e2:(acc++ag)++(List.replicate k ag).flatten=acc++(List.replicate (k+1) ag).flatten:=by
   rw [Xc,Ze,List.append_assoc]
  rw [<- e2,<- wT ag k (acc++ag),<- e,Xc,List.foldl_cons]
section
variable {σ:St} {l b:Addr} {zs:List V}
theorem Inv.EM {its':List Value} {f:Array Value->Array Value} (I:Inv X aa σ H s) (hH:H l=some (.lst xs)) (e:s.heap.get? l=some { cls:=.type "list",data:=.seq ag.toArray n }) (hf:f ag.toArray=its'.toArray) (hv:bH ys its') (hz:ys.length<=sizeLine) :
  Inv X aa σ (upd H l (.lst ys)) { s with heap:=s.heap.update l (Obj.mapSeq f),toks:=t' }:=by
 have q:=PySem.IsL.update e f
 rw [hf] at q
 refine I.write (x:=l) (e:=l) (by rw [hH]; exact trivial) (.inl rfl) (λb' u hb hu=>(Jq s.heap (Obj.mapSeq f) (Ne.symm hb)).trans hu) ⟨_,q⟩ ?_
 exact ⟨hz,its',_,hv,q⟩
theorem Inv.EN (I:Inv X aa σ H s) (hv:bH ys ag) (hz:ys.length<=sizeLine) :
  Inv X aa σ (upd H s.heap.objs.size (.lst ys)) { s with heap:=s.heap.push { cls:=.type "list",data:=.seq ag.toArray },toks:=t' } :=
 I.laid (λ_ _ q=>Qc _ q) (Qh _) ⟨hz,ag,0,hv,Qj _ rfl⟩
theorem Inv.fresh (I:Inv X aa σ H s):H s.heap.objs.size=none:=I.ax.fresh (Qh _)
theorem Inv.u_ (I:Inv X aa σ H s) (hH:H l=some (.lst xs)):xs.length<=sizeLine/\∃ (ag:List Value) (n:Nat),bH xs ag/\xs.length=ag.length/\s.heap.get? l=some { cls:=.type "list",data:=.seq ag.toArray n }:=by
 obtain ⟨z,ag,n,r,e⟩:=I.ax l _ hH
 exact ⟨z,ag,n,r,r.length,e⟩
theorem aDz (h:n<=sizeLine):Builtin.List.listTooLong n=false:=by
 unfold Builtin.List.listTooLong
 exact decide_eq_false (by omega)
end
def sR:V->List V->Hp->VK->Prop:=λx vs H Q=>∃ l xs y,x=.ref l/\vs = [y]/\H l=some (.lst xs)/\xs.length < sizeLine/\Q .br (upd H l (.lst (xs++[y])))
theorem fF:V2 X "list.append" sR:=by
 intro aa s σ H x vs v us Q I rx rv h
 obtain ⟨l,xs,y,rfl,rfl,hH,hz,q⟩:=h
 cases rx
 obtain ⟨u,rfl,ru⟩:=rv.one
 obtain ⟨z,ag,n,r,hl,e⟩:=I.u_ hH
 refine Uq F.slot_list_append ⟨_,e,rfl⟩ F.entry_list_append (F.args_list_append_2 _ _) (PySem.list_append l ag.toArray n u (by rw [Qm]; omega)) ⟨e,?_⟩
 refine ⟨.br,_,I.EM (its':=ag++[u]) hH e (by simp) (r.append (.cons ru .nil)) ?_,rfl,q⟩
 rw [Qg,List.length_singleton]
 omega
def aGW:V->List V->Hp->VK->Prop:=λx vs H Q=>∃ l xs i k y,x=.ref l/\vs = [.int i]/\H l=some (.lst xs)/\-(2^63)<=i/\i < 2^63/\seqIndex? i xs.length=some k/\xs[k]?=some y/\Q y (upd H l (.lst (xs.eraseIdx k)))
theorem U6:V2 X "list.pop" aGW:=by
 intro aa s σ H x vs v us Q I rx rv h
 obtain ⟨l,xs,i,k,y,rfl,rfl,hH,h1,h2,hk,hy,q⟩:=h
 cases rx
 obtain ⟨u,rfl,ru⟩:=rv.one
 obtain ⟨t,rfl⟩:=ru
 obtain ⟨z,ag,n,r,hl,e⟩:=I.u_ hH
 obtain ⟨w,hw,fu⟩:=r.get hy
 refine Uq F.slot_list_pop ⟨_,e,rfl⟩ F.entry_list_pop (F.args_list_pop_2 _ _)
  (MeetsSeq.list_pop_at l ag.toArray n i t k w (fitsIndex_both h1 h2) (by rw [Qm,<- hl]; exact hk) (by rw [<- Array.getElem?_toList]; exact hw) (by rw [Qm]; omega)) ⟨e,?_⟩
 refine ⟨y,_,I.EM (its':=ag.eraseIdx k) hH e ?_ (r.eraseIdx k) ?_,fu,q⟩
 ·show ag.toArray.eraseIdxIfInBounds k=(ag.eraseIdx k).toArray
  rw [List.eraseIdxIfInBounds_toArray]
 ·have:=wS xs k
  omega
def RX:R2:=λx y H Q=>∃ l b xs zs,x=.ref l/\y=.ref b/\H l=some (.lst xs)/\H b=some (.lst zs)/\xs.length+zs.length<=sizeLine/\∀ p,H p=none->Q (.ref p) (upd H p (.lst (xs++zs)))
theorem iB:fm X (binaryOp .Add) RX:=by
 intro aa s σ H x y v u Q I rx ry h
 obtain ⟨l,b,xs,zs,rfl,rfl,hH,hB,hz,q⟩:=h
 cases rx
 cases ry
 obtain ⟨z,ag,n,r,hl,e⟩:=I.u_ hH
 obtain ⟨z2,j7,n2,r2,mn,e2⟩:=I.u_ hB
 refine PySem.P.add_list e e2 ?_ (by rw [Qm,Qm]; omega)
 have ea:ag.toArray++j7.toArray=(ag++j7).toArray:=by simp
 rw [ea]
 exact ⟨.ref _,_,I.EN (t':=s.toks) (r.append r2) (by rw [Qg]; omega),rfl,q _ I.fresh⟩
def U!:R2:=λx y H Q=>∃ l k xs,x=.ref l/\y=.int k/\H l=some (.lst xs)/\-(2^63)<=k/\k < 2^63/\xs.length*k.toNat<=sizeLine /\
 ∀ p,H p=none->Q (.ref p) (upd H p (.lst (List.replicate k.toNat xs).flatten))
theorem aFc (xs:List α) (k:Nat):(List.replicate k xs).flatten.length=k*xs.length:=by
 induction k with
 | zero=>simp
 | succ k ih=>rw [Xc,Ze,Qg,ih,Nat.succ_mul,Nat.add_comm]
theorem S_:fm X (binaryOp .Mult) U!:=by
 intro aa s σ H x y v u Q I rx ry h
 obtain ⟨l,k,xs,rfl,rfl,hH,h1,h2,hz,q⟩:=h
 cases rx
 obtain ⟨t,rfl⟩:=ry
 obtain ⟨z,ag,n,r,hl,e⟩:=I.u_ hH
 have hlen:ag.toArray.size*k.toNat<=sizeLine:=by rw [Qm,<- hl]; exact hz
 have Nf:¬ ag.toArray.size*k.toNat > (2^63 - 1) / 8:=by
  have:(sizeLine:Nat)<=(2^63 - 1) / 8:=by decide
  omega
 have M8:¬ (!Builtin.List.listFitsIndex k)=true:=by
  rw [fitsIndex_both h1 h2]
  exact Qu
 have Fp:¬ Builtin.List.listTooLong (ag.toArray.size*k.toNat)=true:=by
  rw [aDz hlen]
  exact Qu
 have kr:List.foldl (λx1 x2=>x1++x2) #[] (List.replicate (if ag.toArray.isEmpty=true then 0 else k.toNat) ag.toArray)=(List.replicate k.toNat ag).flatten.toArray:=by
  have f0:∀ m:Nat,List.foldl (λx1 x2=>x1++x2) #[] (List.replicate m ag.toArray)=(List.replicate m ag).flatten.toArray:=λm=>by
   have:=wT ag m []
   rw [Wf] at this
   exact this
  rw [f0]
  cases ag with
  | nil=>simp
  | cons a r'=>rw [if_neg (by simp)]
 refine wpAny_binaryOp_repeat_ref (T := "list") (U := "int") (by decide) ⟨_,e,rfl⟩ (λs'=>Rad s' k t) noFill_list_mul F.fills_int_mul F.slot_int_rmul repeat_list F.slot_int_index.lookup
  (Uq F.slot_int_rmul (Rad s k t) F.entry_int_rmul (F.args_int_rmul_2 _ _) (int___rmul___int_list k t l ag.toArray n)
   ⟨e,rfl,⟨_,e,rfl⟩,Uq F.slot_list_mul ⟨_,e,rfl⟩ F.entry_list_mul (F.args_list_mul_2 _ _) (AutoListH.list___mul___list_int_3 l ag.toArray n k t M8 Nf Fp) ⟨e,?_⟩⟩)
 rw [kr]
 exact ⟨.ref _,_,I.EN (t':=s.toks) (r.rep k.toNat) (by rw [aFc,Nat.mul_comm]; exact hz),rfl,q _ I.fresh⟩
end L2
namespace Wz
open PySem PySem.W PySem.Calls PyProof.Rows
theorem sN {P:Params}:∀ (ns:List Int) (vs:List Value),WellAll P h vs (ns.map WData.int)->IntsAre vs ns:=by
 intro ns
 induction ns with
 | nil =>
  intro vs w
  rw [Xt] at w
  cases w
  exact .nil
 | cons n ns ih =>
  intro vs w
  rw [Qz] at w
  cases w with
  | cons a b =>
   cases a
   exact .cons _ _ (ih _ b)
theorem aCK {l:OpenLaw} (hn:l.most=some n) {P:Params} {args:List WData} {vals:List Value} (yt:l.row.toRowW.claim.pre args=true) (JA:WellAll P h vals args) :
  ∃ a vs ns,vals = [Value.ref a]/\args = [WData.list (ns.map WData.int)]/\h.get? a=some { cls:=.type "list",data:=.seq vs.toArray }/\IntsAre vs ns/\ns.length<=n:=by
 have ZI:WShape.hasAll [] args [.list .int]=true:=(pre_splitW yt).1
 have hc:l.pre.holds [] { args:=args }=true:=(pre_splitW yt).2
 obtain ⟨d,r,rfl,h1,h2⟩:=hasAllW_cons ZI
 obtain rfl:=hasAllW_nil h2
 obtain ⟨xs,rfl,h3⟩:=hasW_list h1
 obtain ⟨ns,rfl⟩:=items_int h3
 have hlen:ns.length<=n:=by
  unfold OpenLaw.pre at hc
  have h4:(WTm.not (.lt (.lit (.int (n:Int))) (.len (.arg 0)))).holds [] { args:=[.list (ns.map .int)] }=true:=by
   have h4:=(holds_andW hc).1
   rw [hn] at h4
   exact h4
  have h5:=condW_of h4 (w_not (w_lt w_lit (w_len_list (w_arg rfl))))
  rw [Qd] at h5
  refine Nat.le_of_not_lt λq=>?_
  have q':(n:Int) < ((ns.length:Nat):Int):=by omega
  first
   | (rw [decide_eq_true q'] at h5; exact absurd h5 (by decide))
   | (simp at h5; omega)
 cases JA with
 | cons w1 w2 =>
  cases w2
  cases w1 with
  | list ho B2=>exact ⟨_,_,ns,rfl,rfl,ho,sN ns _ B2,hlen⟩
theorem aCL (l:OpenLaw) (args:List WData):l.row.toRowW.claim.post args (.bool true) args=true :=
 postW_of (r:=l.row.toRowW) (X:=(true==true))
  (show WShape.has [] (.bool true) .bool=true by first | rfl | decide | simp [WShape.has,WShape.arms,WShape.armsAll])
  (show (WTm.eq .res (.lit (.bool true))).value [] { args:=args,res:=some (.bool true),after:=args }=some (.bool (true==true)) from w_eq_bool (w_res rfl) w_lit) rfl
theorem nz {l:OpenLaw} {q:Program} {d:DefRec} (hn:l.most=some n) (DI:d.params.defaults = []) (call:∀ (w:World) (gq cb:Shared) (mg mb:Str->Option Value) (fa:Addr) (o:Obj) (pm cd doc:Value) (a:Addr) (vs:List Value) (ns:List Int),
   Ground q loose [] XP w gq mg mb cb.heap->YP w cb.heap ->
   cb.heap.get? fa=some o->o.data=.func (docDef d.name d.params d.body d.scope pm cd doc)->cb.heap.CodeRec cd d.name->mg d.name=some (.ref fa) ->
   cb.heap.get? a=some { cls:=.type "list",data:=.seq vs.toArray }->IntsAre vs ns->ns.length<=n->cb.gens = #[] ->
   codeAny (model l.prog w) callerA (.call (.ref fa) ⟨[.ref a],[]⟩) (λr s'=>r=.ok (.ret (.bool true))/\OldK cb.heap s'.heap/\s'.os=cb.os/\AllBare s'.gens) cb) :
  WalkO q loose XP YP l.row.toRowW d [] (λf vs=>Mq f vs):=by
 intro w gq cb mg mb G Y fa o pm cd doc dV kV ho hd ju hD zt hg args vals as yt aae hrd JA x_
 obtain rfl:dV=.none:=Dflts.none hD DI
 obtain rfl:kV=.none:=Dflts.noKw hD
 obtain ⟨a,vs,ns,rfl,rfl,BR,hints,hlen⟩:=aCK hn yt JA
 refine enter_call (Uv (call w gq cb mg mb fa o pm cd doc a vs ns G Y ho (fd_plain hd) ju zt BR hints hlen hg) λr s' hq=>?_)
 obtain ⟨rfl,h2,h3,h4⟩:=hq
 exact ⟨.inl ⟨.bool true,.bool true,[],rfl,λ_=>rfl,.bool true,aCL l _,λ_=>⟨List.Pairwise.nil,λ_ hm=>(nomatch hm)⟩⟩,h2,h3,h4⟩
section
variable {K:Frag}
end
end Wz
namespace L2
open PySem PySem.Spec PyProof.Rows
theorem wU:∀ {vs:List Value} {ns:List Int},IntsAre vs ns->bH (ns.map V.int) vs
 := by
 intro vs ns h
 induction h with
 | nil=>exact .nil
 | cons n t h ih=>exact .cons ⟨t,rfl⟩ ih
def iX (s:Stmt):Arguments:=match s with
 | .FunctionDef _ a _ _ _ _ _ _ _ _=>a
 | _=>{ posonlyargs:=[],args:=[],vararg:=none,kwonlyargs:=[],kw_defaults:=[],kwarg:=none,defaults:=[] }
def eX (s:Stmt):List Stmt:=match s with
 | .FunctionDef _ _ b _ _ _ _ _ _ _=>b
 | _=>[]
def aI (s:Stmt):Scope:=match s with
 | .FunctionDef _ _ _ _ _ _ sc _ _ _=>sc
 | _=>{ kind:=.function,names:=[],isGenerator:=false,isCoroutine:=false }
abbrev ao:Ar:=λ_ _ _ _ _ _=>False
abbrev E0:XK:=λ_ _ _=>False
theorem gH:mP ao X E0:=λ_ _ _ _ _ _ _ h=>h.elim
structure o8 (K:Rb) (x qual:Str) (st:Stmt) (f:Addr) (fd:FuncData):Prop where
 ex:∃ (oc:Value) (od:Option Addr) (kV doc pm:Value) (an:Option Addr) (bg ct:Value) (qx:Array (Option Value)),
  fd=Tg x qual (iX st) (eX st) (aI st) .none kV doc pm an bg ct/\K.lookup f=some ⟨oc,od,.func fd,qx⟩/\Uc K bg qual=true
 kp:Tc K (.ref f)=true
theorem o8.ok {x:Str} {k:Nat} (F:o8 K x qual st f fd) (S:af N ps (aI st)) (len:∀ vs H Q E,sp vs H Q E->vs.length=ps.length) (f':∀ (bg:Value) (A:Around) (outer:List Env) (s:Shared) (H:Hp) (vs:List V) (Q:VK) (E:XK),aj k (A.deeper (envOfC qual (aI st) s.heap.objs.size f bg))->sp vs H Q E ->
   ∃ t,j4 (oG ao P w K mg base N qual (aI st) f bg A outer s H E).ud (eX st) t/\t { nx:=λ_ H'=>Q .br H',rt:=Q } (start N vs) H):ae P w K mg base ao (k+1) f fd ps sp:=by
 obtain ⟨oc,od,kV,doc,pm,an,bg,ct,qx,rfl,lk,ju⟩:=F.ex
 refine K_ lk ju S len λA outer s H vs Q E hr qb=>?_
 obtain ⟨t,h,q⟩:=f' bg A outer s H vs Q E hr qb
 exact ⟨t,h.ud,q⟩
theorem o8.oK {x:Str} {k:Nat} (F:o8 K x qual st f fd) (S:af N ps (aI st)) (f':∀ (bg:Value) (A:Around) (outer:List Env) (s:Shared) (H:Hp) (vs:List V) (Q:VK) (E:XK),aj k (A.deeper (envOfC qual (aI st) s.heap.objs.size f bg))->sp vs H Q E ->
   ∃ t,j4 (oG ao P w K mg base N qual (aI st) f bg A outer s H E).ud (eX st) t/\t { nx:=λ_ H'=>Q .br H',rt:=Q } (start N vs) H) (len:∀ vs H Q E,sp vs H Q E->vs.length=ps.length:=by
  intro vs H Q E h
  repeat (first | (obtain ⟨h,-⟩:=h; subst h; rfl) | obtain ⟨_,h⟩:=h)):ae P w K mg base ao (k+1) f fd ps sp:=F.ok S len f'
theorem o8.binds {x:Str} (F:o8 K x qual st f fd) (h:∀ (kV doc pm:Value) (an:Option Addr) (bg ct:Value) (us:List Value),us.length=ps.length->bindArgs (Tg x qual (iX st) (eX st) (aI st) .none kV doc pm an bg ct) ⟨us,[]⟩=pure (ps.zip us)):jT K fd ps []:=by
 obtain ⟨oc,od,kV,doc,pm,an,bg,ct,qx,rfl,lk,ju⟩:=F.ex
 exact .all (h kV doc pm an bg ct)
theorem Lw {x:Str} {kV:Value} (l:K.lookup f=some ⟨oc,od,.func (Tg x qual (iX st) (eX st) (aI st) .none kV doc pm an bg ct),qx⟩) (c:Uc K bg qual=true) (k:Tc K (.ref f)=true):o8 K x qual st f (Tg x qual (iX st) (eX st) (aI st) .none kV doc pm an bg ct):=⟨⟨oc,od,kV,doc,pm,an,bg,ct,qx,rfl,l,c⟩,k⟩
theorem bU {k:Nat} (hr:aj k A):A.units+1 < cLine:=Xp (Nat.add_le_add_left (by decide:1<=64) _) hr.units
theorem wV (h:n<=1000):n < sizeLine:=Xp h (by decide)
theorem pv (i:Nat) {x:Str} (hN:X.N[i]?=some x:=by rfl) (hv:Hc X.env.scope x:=by first | exact Or.inl rfl | exact Or.inr (Or.inl rfl) | exact Or.inr (Or.inr rfl)) (hd:(x==("__debug__" : Str))=false:=by decide) (ju:(x==("__classdict__" : Str))=false:=by decide):PE X (.Name x pos) (pQ i):=SY hN hv hd ju
theorem oH {A:Prop} (h:B):if false=true then A else B:=by
 rw [if_neg Qu]
 exact h
theorem kN {A:Prop} (h:A):if true=true then A else B:=by
 rw [if_pos rfl]
 exact h
theorem gI {c A:Prop} [Decidable c] (h1:c->A) (h2:¬ c->B):if c then A else B:=by
 by_cases h:c
 ·rw [if_pos h]
  exact h1 h
 ·rw [if_neg h]
  exact h2 h
def aD (H H':Hp):Prop:=∀ b o,H b=some o->H' b=some o
theorem aD.refl (H:Hp):aD H H:=λ_ _ h=>h
theorem aD.trans (a:aD H H1) (b:aD H1 H2):aD H H2:=λc o h=>b c o (a c o h)
theorem aD.free (e:aD H H') {l:Addr} (h:H' l=Option.none):H l=Option.none:=by
 cases q:H l with
 | none=>rfl
 | some o =>
  rw [e l o q] at h
  cases h
def gG (env:Env):List (Str×NameKind)->List (Str×Addr)->List (Str×Addr)
 | [],acc=>acc
 | (n,k)::r,acc=>if k==.free then (match env.cells.lookup n with | some c=>gG env r ((n,c)::acc) | none=>gG env r acc) else gG env r acc
theorem U5 {env:Env}:∀ (names:List (Str×NameKind)) (acc:List (Str×Addr)),(∀ y∈names,y.2=.free->∃ c,env.cells.lookup y.1=some c) ->
  (forIn names acc λ(x:Str×NameKind) (r:List (Str×Addr))=>(match x with
   | (name,kind)=>if (kind==NameKind.free)=true then (do let a<-cellOf env name; pure (ForInStep.yield ((name,a)::r))) else pure (ForInStep.yield r):Sem (ForInStep (List (Str×Addr)))))=(pure (gG env names acc):Sem _)
 | [],acc,_=>rfl
 | (n,k)::r,acc,h=>by
  have ih:=λacc=>U5 r acc λy hy=>h y (Qk _ hy)
  rw [Zl]
  by_cases hk:(k==NameKind.free)=true
  ·obtain ⟨c,hc⟩:=h (n,k) Qp (by simpa using hk)
   have e1:gG env ((n,k)::r) acc=gG env r ((n,c)::acc):=by
    show (if k==.free then _ else _)=_
    rw [if_pos hk]; simp only at hc; rw [hc]
   simp only at hc
   rw [e1,<- ih]
   simp only [hk,if_true,cellOf,hc]
   rfl
  ·have e1:gG env ((n,k)::r) acc=gG env r acc:=by
    show (if k==.free then _ else _)=_
    rw [if_neg hk]
   rw [e1,<- ih]
   simp only [hk,if_false]
   rfl
theorem S9 {env:Env} (h:∀ y∈scope.names,y.2=.free->∃ c,env.cells.lookup y.1=some c):closureFor scope env=pure (gG env scope.names []):=by
 unfold closureFor
 have e:=U5 scope.names [] h
 show (forIn scope.names [] _ >>= _)=_
 exact (congrArg (λz=>z >>= λr=>pure r) e).trans rfl
theorem mS {env:Env}:∀ (names:List (Str×NameKind)) (acc:List (Str×Addr)) (n:Str) (c:Addr),(n,c)∈gG env names acc->(n,c)∈acc∨env.cells.lookup n=some c
 | [],_,_,_,h=>.inl h
 | (m,k)::r,acc,n,c,h=>by
  by_cases hk:(k==NameKind.free)=true
  ·rw [show gG env ((m,k)::r) acc=(match env.cells.lookup m with | some c=>gG env r ((m,c)::acc) | none=>gG env r acc) from if_pos hk] at h
   cases e:env.cells.lookup m with
   | none=>rw [e] at h; exact mS r acc n c h
   | some d =>
    rw [e] at h
    rcases mS r _ n c h with q | q
    ·rcases Ql.mp q with q | q
     ·cases q; exact .inr e
     ·exact .inl q
    ·exact .inr q
  ·rw [show gG env ((m,k)::r) acc=gG env r acc from if_neg hk] at h
   exact mS r acc n c h
theorem mT {env:Env}:∀ (names:List (Str×NameKind)) (acc:List (Str×Addr)) (n:Str),((∃ c,(n,c)∈acc)∨((n,NameKind.free)∈names/\∃ c,env.cells.lookup n=some c))->∃ c,(n,c)∈gG env names acc
 | [],_,_,h=>by
  rcases h with h | ⟨h,_⟩
  ·exact h
  ·cases h
 | (m,k)::r,acc,n,h=>by
  by_cases hk:(k==NameKind.free)=true
  ·rw [show gG env ((m,k)::r) acc=(match env.cells.lookup m with | some c=>gG env r ((m,c)::acc) | none=>gG env r acc) from if_pos hk]
   cases e:env.cells.lookup m with
   | none =>
    refine mT r acc n ?_
    rcases h with h | ⟨h,c,hc⟩
    ·exact .inl h
    ·rcases Ql.mp h with h | h
     ·cases h; rw [e] at hc; cases hc
     ·exact .inr ⟨h,c,hc⟩
   | some d =>
    refine mT r _ n ?_
    rcases h with ⟨c,h⟩ | ⟨h,c,hc⟩
    ·exact .inl ⟨c,Qk _ h⟩
    ·rcases Ql.mp h with h | h
     ·cases h; exact .inl ⟨d,Qp⟩
     ·exact .inr ⟨h,c,hc⟩
  ·rw [show gG env ((m,k)::r) acc=gG env r acc from if_neg hk]
   refine mT r acc n ?_
   rcases h with h | ⟨h,c,hc⟩
   ·exact .inl h
   ·rcases Ql.mp h with h | h
    ·cases h; exact absurd rfl hk
    ·exact .inr ⟨h,c,hc⟩
theorem kJ:∀ {l:List (Str×β)} {a:Str} {b:β},l.lookup a=some b->(a,b)∈l:=PySem.mem_of_lookup_some
theorem mU:∀ {l:List (Str×β)} {a:Str} {b:β},(a,b)∈l->∃ c,l.lookup a=some c
 | (k,v)::l,a,b,h=>by
  rw [Jp]
  by_cases e:(a==k)=true
  ·rw [e]; exact ⟨v,rfl⟩
  ·have e':(a==k)=false:=by simpa using e
   rw [e']
   rcases Ql.mp h with h | h
   ·cases h; simp at e
   ·exact mU h
theorem jU {env:Env} (x:Str):∀ (names:List (Str×NameKind)),
  (names.map λ(n,k)=>if (k==NameKind.free && env.scope.kind==.function && env.kindOf n==some .cell) then (n,NameKind.cell) else (n,k)).lookup x =
   (names.lookup x).map λk=>if (k==NameKind.free && env.scope.kind==.function && env.kindOf x==some .cell) then NameKind.cell else k
 | []=>rfl
 | (n,k)::r=>by
  have ih:=jU (env:=env) x r
  rw [Qz]
  by_cases e:(x==n)=true
  ·have en:x=n:=by simpa using e
   subst en
   dsimp only
   by_cases c:(k==NameKind.free && env.scope.kind==.function && env.kindOf x==some .cell)=true
   ·rw [if_pos c,Jp,Jp,e]
    simp only [Xe,c,if_true]
   ·rw [if_neg c,Jp,Jp,e]
    simp only [Xe,c]
    rfl
  ·have e':(x==n)=false:=by simpa using e
   dsimp only
   by_cases c:(k==NameKind.free && env.scope.kind==.function && env.kindOf n==some .cell)=true
   ·rw [if_pos c,Jp,Jp,e']; exact ih
   ·rw [if_neg c,Jp,Jp,e']; exact ih
def zc (z:Option Str) (C:Addr):List (Str×Addr):=match z with
 | none=>[]
 | some x=>[(x,C+1)]
section
variable {x:Str}
theorem lQ (h:(zc z C++cl).lookup x=some c):(z=some x/\c=C+1)∨(z≠some x/\cl.lookup x=some c):=by
 cases z with
 | none=>exact .inr ⟨λq=>(by cases q),h⟩
 | some z0 =>
  have h:((z0,C+1)::cl).lookup x=some c:=h
  rw [Jp] at h
  cases e:x==z0 with
  | true=>rw [e] at h; exact .inl ⟨by rw [show x=z0 by simpa using e],(Option.some.inj h).symm⟩
  | false=>rw [e] at h; exact .inr ⟨λq=>(by cases q; simp at e),h⟩
theorem Sx (h:z≠some x):(zc z C++cl).lookup x=cl.lookup x:=by
 cases z with
 | none=>rfl
 | some z0 =>
  show ((z0,C+1)::cl).lookup x=_
  rw [Jp,show (x==z0)=false by simpa using λq=>h (by rw [q])]
theorem aHP:(zc (some x) C++cl).lookup x=some (C+1):=by
 show ((x,C+1)::cl).lookup x=_
 rw [Jp,show (x==x)=true by simp]
end
def bX (X:Cx) (scope:Scope) (z:Option Str) (N:List Str) (C:Addr) (s0:Shared) (H0:Hp) (fp:List Addr):Cx where
 prog:=X.prog
 w:=X.w
 K:=X.K
 mg:=X.mg
 base:=X.base
 A:=X.A
 N:=N
 gq:=s0
 t_:=H0
 env:={ compEnvC scope (gG X.env scope.names []) C X.env with cells:=zc z C++gG X.env scope.names [] }
 outer:=X.stack
 stack:=X.stack
 ex:=fp
 fn:=λy=>z==some y
 calm:=X.calm
 pn:=[]
 xe:=λ_ _=>False
def nK (sc scope:Scope) (z:Option Str) (own:List Str) (bo:List Str):Bool :=
 scope.kind==.function && scope.names.all (λy=>y.2 !=.cell || z==some y.1) && scope.names.all (λy=>y.2 !=.local || scope.names.lookup y.1==some .local) &&
 scope.names.all (λy=>y.2 !=.free || sc.names.lookup y.1==some .cell || sc.names.lookup y.1==some .free) && decide (own++bo).Nodup &&
 bo.all (λx=>scope.names.lookup x==some .free) && scope.names.all (λy=>y.2 !=.free || z !=some y.1)
def d7 (own:Nat) (fr:List Nat) (σ:St):St:=List.replicate own none++fr.map λj=>(σ[j]?).join
structure bx (X:Cx) (scope:Scope) (z:Option Str) (own:List Str) (fr:List Nat) (bo:List Str):Prop where
 ck:nK X.env.scope scope z own bo=true
 ix:∀ (k:Nat) (x:Str),bo[k]?=some x->∃ j:Nat,fr[k]?=some j/\X.N[j]?=some x
 len:fr.length=bo.length
 cf:∀ z0,z=some z0->(∀ (n:Nat) (cl:List (Str×Addr)),cellsFrom n scope.names cl=(z0,n)::cl)/\∀ h:Heap,pushCells h scope.names=h.push { cls:=.type "cell",data:=.cell none }
theorem bx.parts (S:bx X scope z own fr bo):scope.kind=.function/\(∀ y∈scope.names,y.2=.cell->z=some y.1)/\(∀ y∈scope.names,y.2=.local->scope.names.lookup y.1=some .local) /\
  (∀ y∈scope.names,y.2=.free->X.env.scope.names.lookup y.1=some .cell∨X.env.scope.names.lookup y.1=some .free)/\(own++bo).Nodup/\(∀ x∈bo,scope.names.lookup x=some .free)/\∀ y∈scope.names,y.2=.free->z≠some y.1:=by
 have h:=S.ck
 unfold nK at h
 simp only [Jc,Jv,decide_eq_true_eq,Wg,bne_iff_ne,ne_eq,beq_iff_eq] at h
 obtain ⟨⟨⟨⟨⟨⟨h1,h2⟩,h3⟩,h4⟩,h5⟩,h7⟩,h9⟩:=h
 exact ⟨h1,λy hy e=>(h2 y hy).resolve_left λq=>q e,λy hy e=>(h3 y hy).resolve_left λq=>q e,λy hy e=>by
  rcases h4 y hy with (q | q) | q
  ·exact absurd e q
  ·exact .inl q
  ·exact .inr q,h5,h7,λy hy e=>(h9 y hy).resolve_left λq=>q e⟩
theorem bx.env (S:bx X scope z own fr bo) {Q:Env->Shared->Prop} (h:∀ ka tk,ka.Ns s.heap.objs.size (λ_=>none)->(∀ b o,s.heap.get? b=some o->ka.get? b=some o)->(z≠none->ka.IsCell (s.heap.objs.size+1) none)->Q (newEnv scope s.heap.objs.size X.env.globals (zc z s.heap.objs.size++gG X.env scope.names []) X.env.qual none .none (some X.env) builtinsNs) { s with heap:=ka,toks:=tk }) :
  wpAny M A (newFunctionEnv scope X.env.globals (gG X.env scope.names []) [] X.env.qual none .none (some X.env)) Q E s:=by
 obtain ⟨p1,p2,_⟩:=S.parts
 cases z with
 | none=>exact Rab (λy hy e=>by cases p2 y hy e) (by intro y hy; simp at hy) (λka jg F5=>h ka _ jg (λb o e=>F5.extBut b o (Qy (Qo e)) (Qc _ e)) λq=>absurd rfl q) p1
 | some z0 =>
  obtain ⟨cf,pc⟩:=S.cf z0 rfl
  simp only [newFunctionEnv,Wr,if_true]
  refine Ra (wpAny_alloc ?_)
  refine Ra (wpAny_layCells _ (λname kind cells=>by cases Z6:kind==NameKind.cell <;> simp [Z6]) _ _ _ _ ?_)
  rw [cf,pc,show ({ s with heap:=s.heap.push { cls:=.type "dict",data:=.dict #[] } }:Shared).heap.objs.size=s.heap.objs.size+1 from Jm ..]
  rw [Zs]
  refine Ra (Rc (Rc (h _ s.toks ((Heap.Ns.new s.heap (.type "dict")).push _) (λb o e=>Qc _ (Qc _ e)) λ_=>⟨{ cls:=.type "cell",data:=.cell none },by
   have e:=Qj (s.heap.push { cls:=.type "dict",data:=.dict #[] }) (o:={ cls:=.type "cell",data:=.cell none }) rfl
   rw [Jm] at e
   exact e,rfl⟩)))
theorem bx.Np (S:bx X scope z own fr bo) (σ:St):(d7 own.length fr σ).length=(own++bo).length:=by
 unfold d7
 rw [Qg,Qg,Jj,Qd,S.len]
theorem aDC {σ:St} {h1:Heap} {tk:Nat} {D:Addr} {oD:Obj} {m:Str->Option Value} (I:Inv X aa σ H s) (S:bx X scope z own fr bo) (ow:∀ b∈fp,sM X aa H b) (bw:∀ b∈fp,b < s.heap.objs.size) (hC:s.heap.objs.size<=C) (hn:h1.Ns C m) (hk:∀ b o,s.heap.get? b=some o->h1.get? b=some o) (hD:s.heap.objs.size<=D) (yk:D≠C) (JK:h1.get? D=some oD) (JZ:∀ v,oD.data≠.cell v) (uw:z≠none->h1.IsCell (C+1) none) :
  Inv (bX X scope z (own++bo) C s H fp) [(D,oD)] (d7 own.length fr σ) H { s with heap:=h1,toks:=tk }:=by
 obtain ⟨p1,p2,p3,p4,p5,p7,p9⟩:=S.parts
 have below:∀ b,b < s.heap.objs.size->b≠C:=λb hb z=>Jl _ (Qq (z ▸ hb) hC)
 have i4:∀ x c,(gG X.env scope.names []).lookup x=some c->X.env.cells.lookup x=some c:=λx c e=>by
  rcases mS _ _ _ _ (kJ e) with q | q
  ·cases q
  ·exact q
 have RG:∀ x c,X.env.cells.lookup x=some c->c < s.heap.objs.size:=λx c e=>by
  obtain ⟨v,q⟩:=I.cell x c e
  exact q.lt
 have MD:∀ b∈fp,b∉dj X.stack:=λb hb z=>by
  obtain ⟨_,f1,f2,_⟩:=ow b hb
  rcases Ql.mp (I.ir b z) with e | e
  ·exact f1 e
  ·exact f2 e
 have Dfs:D∉dj X.stack:=λz=>by
  have q:=I.ir D z
  rcases Ql.mp q with e | e
  ·exact Jl _ (Qq (e ▸ I.lt:D < _) hD)
  ·exact I.BH hD e
 refine ⟨⟨I.ok.mod,p1,I.ok.glob,I.ok.blt,hC,λx y c e1 e2=>?inj,λx hx=>?has,λx c e e2=>?Ae,I.ok.hd,I.ok.frames,.inl rfl,λb hb=>?D0,I.bs,Ja I.ok.yl I.sz,λb o e hb=>?kn,MD,I.stack,I.g_⟩,
  rfl,I.bare,Un.kept hk,⟨m,hn,λi x v e1 e2 e3=>?loc⟩,λx c e=>?cell,I.ax.fresh hC,λx c e=>?cy,λp hp=>?pin,I.ax.kept hk,S.Np σ⟩
 case inj =>
  have D6:(zc z C++gG X.env scope.names []).lookup x=some c:=e1
  have lx:(zc z C++gG X.env scope.names []).lookup y=some c:=e2
  rcases lQ D6 with ⟨r1,rfl⟩ | ⟨n1,q1⟩ <;> rcases lQ lx with ⟨r2,e⟩ | ⟨n2,q2⟩
  ·exact Option.some.inj (r1.symm.trans r2)
  ·exact absurd (RG _ _ (i4 _ _ q2)) (Nat.not_lt.mpr (Xq hC))
  ·subst e
   exact absurd (RG _ _ (i4 _ _ q1)) (Nat.not_lt.mpr (Xq hC))
  ·exact I.ok.inj x y c (i4 x c q1) (i4 y c q2)
 case has =>
  have qy:(relabel scope X.env).names.lookup x=some .cell∨(relabel scope X.env).names.lookup x=some .free:=hx
  show ∃ c,(zc z C++gG X.env scope.names []).lookup x=some c
  by_cases hz:z=some x
  ·rw [hz,aHP]
   exact ⟨_,rfl⟩
  ·rw [Sx hz]
   have hl:(relabel scope X.env).names.lookup x=_:=jU (env:=X.env) x scope.names
   rw [hl] at qy
   cases e:scope.names.lookup x with
   | none =>
    rw [e] at qy
    rcases qy with z | z <;> cases z
   | some k =>
    have o_:=kJ e
    have Z5:k=.free:=by
     rw [e] at qy
     simp only [Xe,Option.some.injEq] at qy
     by_cases c:(k==NameKind.free && X.env.scope.kind==.function && X.env.kindOf x==some .cell)=true
     ·simp only [Jc,beq_iff_eq] at c
      exact c.1.1
     ·rw [if_neg c] at qy
      rcases qy with z | z
      ·exact absurd (p2 _ o_ z) hz
      ·exact z
    subst Z5
    obtain ⟨c,hc⟩:=I.ok.has x (p4 _ o_ rfl)
    obtain ⟨c',bz⟩:=mT (env:=X.env) scope.names [] x (.inr ⟨o_,c,hc⟩)
    exact mU bz
 case Ae =>
  have e':(z==some x)=true:=e
  have lx:(zc z C++gG X.env scope.names []).lookup x=some c:=e2
  rcases lQ lx with ⟨_,rfl⟩ | ⟨n1,_⟩
  ·exact Xq hC
  ·exact absurd (by simpa using e') n1
 case D0 =>
  refine ⟨below b (bw b hb),λx c e=>?_⟩
  have e':(zc z C++gG X.env scope.names []).lookup x=some c:=e
  rcases lQ e' with ⟨_,rfl⟩ | ⟨_,q⟩
  ·exact λz=>Jl _ (Qq (bw b hb) (by rw [<- z]; exact Xq hC))
  ·exact (ow b hb).2.2.2.2.1 x c (i4 x c q)
 case kn =>
  rcases (ow b hb).2.2.2.1 with z | z
  ·exact I.ok.kn b o e z
  ·exact absurd (Qq (Qo (I.ok.bs b o e).1) z) (Jl _)
 case loc =>
  show ∃ u,bQ v u/\RU _ _ _ x u
  have D6:(own++bo)[i]?=some x:=e1
  have lx:(d7 own.length fr σ)[i]?=some (some v):=e2
  unfold d7 at lx
  by_cases hi:i < own.length
  ·rw [Qn (by simpa using hi),Xh] at lx
   rw [if_pos hi] at lx
   cases lx
  ·rw [Qr (by simpa using hi)] at lx
   rw [Qr (by omega)] at D6
   rw [Jj,Qi] at lx
   obtain ⟨j,sy,A4⟩:=S.ix _ _ D6
   rw [sy] at lx
   simp only [Xe,Option.some.injEq] at lx
   have gw:σ[j]?=some (some v):=by
    cases q:σ[j]? with
    | none=>rw [q] at lx; cases lx
    | some w=>rw [q] at lx; exact congrArg some lx
   have m9:=p7 x (Qe D6)
   have o_:=kJ m9
   have Y8:z≠some x:=p9 _ o_ rfl
   have kx:=p4 _ o_ rfl
   have XA:Hc X.env.scope x:=by
    rcases kx with z | z
    ·exact .inr (.inl z)
    ·exact .inr (.inr z)
   obtain ⟨m0,OZ,Cz⟩:=I.loc
   obtain ⟨u,ru,lk⟩:=Cz j x v A4 gw XA
   refine ⟨u,ru,.inr ⟨?_,?_⟩⟩
   ·show (relabel scope X.env).names.lookup x=some .cell∨(relabel scope X.env).names.lookup x=some .free
    have hl:(relabel scope X.env).names.lookup x=_:=jU (env:=X.env) x scope.names
    rw [hl,m9]
    simp only [Xe,Option.some.injEq]
    by_cases c:(NameKind.free==NameKind.free && X.env.scope.kind==.function && X.env.kindOf x==some .cell)=true
    ·rw [if_pos c]; exact .inl rfl
    ·rw [if_neg c]; exact .inr rfl
   ·rcases lk with ⟨kl,_⟩ | ⟨_,c,hc,fh⟩
    ·have Y1:X.env.scope.names.lookup x=some .local:=kl
     rcases kx with z | z <;> (have z':X.env.scope.names.lookup x=_:=z; rw [Y1] at z'; cases z')
    ·obtain ⟨c',bz⟩:=mT (env:=X.env) scope.names [] x (.inr ⟨o_,c,hc⟩)
     obtain ⟨c2,wo⟩:=mU bz
     have ec:c2=c:=by
      have:=i4 x c2 wo
      rw [hc] at this
      exact (Option.some.inj this).symm
     subst ec
     obtain ⟨oc,ho,hd⟩:=fh
     exact ⟨c2,(Sx Y8).trans wo,oc,hk _ _ ho,hd⟩
 case cell =>
  have e':(zc z C++gG X.env scope.names []).lookup x=some c:=e
  rcases lQ e' with ⟨_,rfl⟩ | ⟨_,q⟩
  ·exact ⟨none,uw λq=>by simp_all⟩
  ·obtain ⟨v,o,ho,hd⟩:=I.cell x c (i4 x c q)
   exact ⟨v,o,hk _ _ ho,hd⟩
 case cy =>
  have e':(zc z C++gG X.env scope.names []).lookup x=some c:=e
  rcases lQ e' with ⟨_,rfl⟩ | ⟨_,q⟩
  ·exact I.ax.fresh (Xq hC)
  ·exact I.cy x c (i4 x c q)
 case pin =>
  have F8:p∈([]:List (Addr×Obj))++[(D,oD)]:=hp
  simp only [Wf,Qx] at F8
  subst F8
  exact ⟨JK,I.ax.fresh hD,yk,Dfs,JZ⟩
structure gc (P:Program) (w:World) (A:Around) (e:Expr) (d:Nat) (tg iter:Expr) (ifs:List Expr) (bd:Env->Addr->Sem Unit):Prop where
 FC:∀ (it:Value) (D:Addr) (env:Env),A.under (.compLoop e d it (.ref D) env)=A/\(model P w).den (.compLoop e d it (.ref D) env)=(compTurn e d it (.ref D) env).onRaise (λx=>do noteFrame x env; theTreesLotGoes x)
 turn:∀ (it:Value) (D:Addr) (env:Env),compTurn e d it (.ref D) env=(do
   standAt iter.pos
   match<-pyNext it with
   | none=>pure (.done .next)
   | some v =>
    letOwnedTupleGo tg it v
    assign tg env v
    let mut ok:=true
    for c in ifs do
     if ok then ok<-isTrue c env (eval c env)
    if ok then bd env D
    again (.compLoop e d it (.ref D) env))
 start:∀ {R:Result->Shared->Prop} {s:Shared} {it acc:Value} {env:Env},codeAny (model P w) A (.compLoop e d it acc env) R s->wpAny (model P w) A (pyIter it) (λY5 s'=>codeAny (model P w) A (.compLoop e d Y5 acc env) R s') (notedBy (model P w) A env λx s'=>R (.error x) s') s->codeAny (model P w) A (.compStart e d it acc env) R s
structure gk {α:Type} (P:Program) (w:World) (A:Around) (na:Sem Value) (a0:α) (Ok:Addr->α->Heap->Prop):Prop where
 new:∃ o0:Obj,(∀ v,o0.data≠.cell v)/\o0.isFreed=false/\(∀ (h:Heap) D,h.get? D=some o0->Ok D a0 h)/\∀ {Q:Value->Shared->Prop} {E:Value->Shared->Prop} {s:Shared},Q (.ref s.heap.objs.size) { s with heap:=s.heap.push o0 }->wpAny (model P w) A na Q E s
 keep:∀ {D:Addr} {a:α} {h h':Heap},Ok D a h->(∀ o,h.get? D=some o->h'.get? D=some o)->Ok D a h'
 obj:∀ {D:Addr} {a:α} {h:Heap},Ok D a h->∃ o,h.get? D=some o/\∀ v,o.data≠.cell v
theorem aAg {bd:Env->Addr->Sem Unit} {d:Nat} {D:Addr} {target:Expr} {it:Value} {env:Env} (LO:gc prog w A e d target iter ifs bd) (I:Nat->Shared->Prop) (turn:∀ n s,I n s->wpAny (model prog w) A (pyNext it) (λr cb=>match r with
   | none=>R (.ok .next) cb
   | some v=>wpAny (model prog w) A (letOwnedTupleGo target it v) (λ_ N5=>wpAny (model prog w) A (assign target env v) (λ_ jf =>
     wpAny (model prog w) A (forIn ifs true λc r=>if r=true then do let ok<-isTrue c env (eval c env); pure (ForInStep.yield ok) else pure (ForInStep.yield r)) (λok zf =>
      if ok=true then wpAny (model prog w) A (bd env D) (λ_ NZ=>∃ m,m < n/\I m NZ) (λ_ _=>False) zf
      else ∃ m,m < n/\I m zf) (λ_ _=>False) jf) (λ_ _=>False) N5) (λ_ _=>False) cb) (λ_ _=>False) s) (n:Nat) (h:I n s) :
  codeAny (model prog w) A (.compLoop e d it (.ref D) env) R s:=by
 refine codeAny_loop rfl I (λn s hI=>?_) n h
 rw [(LO.FC it D env).1,(LO.FC it D env).2]
 refine wpAny_noted ?_
 rw [LO.turn]
 refine Ra (Va (Ra (Rj (turn n s hI) (λr cb ka=>?_) λ_ _ h'=>h'.elim)))
 cases r with
 | none=>exact Rc ka
 | some v =>
  refine Ra (Rj ka (λ_ N5 Nk=>?_) λ_ _ h'=>h'.elim)
  refine Ra (Rj Nk (λ_ jf Bf=>Ra (Rj Bf (λok zf Gr=>?_) λ_ _ h'=>h'.elim)) λ_ _ h'=>h'.elim)
  cases ok with
  | false=>exact Rc ⟨rfl,Gr⟩
  | true=>exact Ra (Rj Gr (λ_ NZ l?=>Rc ⟨rfl,l?⟩) λ_ _ h'=>h'.elim)
def PF (X:Cx) (ifs:List Expr) (t:TT):Prop :=
 ∀ (aa:List (Addr×Obj)) (s:Shared) (σ:St) (H:Hp) (Q:Bool->Hp->Prop),Inv X aa σ H s->t σ H Q ->
  wpAny (model X.prog X.w) X.A (forIn ifs true λc r=>if r=true then do let ok<-isTrue c X.env (eval c X.env); pure (ForInStep.yield ok) else pure (ForInStep.yield r)) (TP X aa σ Q) X.xe s
def Ah:TT:=λ_ H Q=>Q true H
theorem eM:PF X [] Ah:=λ_ _ _ H _ I h=>wpAny_tests_nil ⟨H,I,h⟩
theorem xZ {c:Expr} {t:TT} (h:PT X c t):PF X [c] t:=λaa s σ H Q I hq=>wpAny_tests_one (h aa s σ H Q I hq)
def jv (J:It) (a0:α) (Fv:St) (H1:Hp) (q:α->St->Hp->Prop) (g:TG) (tt:TT) (tb:α->St->Hp->(α->St->Hp->Prop)->Prop):Prop:=∃ W:Nat->Nat->α->St->Hp->Prop,(∃ m,W 0 m a0 Fv H1)/\∀ i m a ak H,W i m a ak H->(J.stop i H/\q a ak H) ∨
 (J.go i H/\∃ N:α->St->Hp->Prop,(∀ a' az H2,N a' az H2->∃ m',m' < m/\W (i+1) m' a' az H2)/\∀ x H',J.pw i H x H'->g x ak H' λaz H2=>tt az H2 λb H3=>if b=true then tb a az H3 N else N a az H3)
def oi (te:TE) (ys:List V) (σ:St) (H:Hp) (R:List V->St->Hp->Prop):Prop:=te σ H λy H4=>ys.length < sizeLine/\R (ys++[y]) σ H4
def Sw (own:Nat) (fr:List Nat) (wi:TI) (g:TG) (tt:TT) (te:TE):TE:=λσ H Q=>wi σ H λJ H1=>jv J [] (d7 own fr σ) H1 (λys _ H=>∀ p,H p=none->Q (.ref p) (upd H p (.lst ys))) g tt (oi te)
structure Ho (Y:Cx) (D:Addr) (ps:List (Addr×Obj)):Prop where
 L:D≠Y.env.locals
 ex:D∈Y.ex∨Y.gq.heap.objs.size<=D
 c:∀ x c,Y.env.cells.lookup x=some c->c≠D
 pn:∀ p∈Y.pn,p.1≠D
 fs:D∉Y.fs
 ps:∀ p∈ps,p.1≠D
section
variable {Y:Cx} {d:Nat} {gs:List Comprehension} {wi:TI} {na:Sem Value} {bd:Env->Addr->Sem Unit} {a0:α} {Ok:Addr->α->Heap->Prop} {tb:α->St->Hp->(α->St->Hp->Prop)->Prop} {ps:List (Addr×Obj)} {σ:St} {D:Addr}
theorem Inv.vq {u:HO} (I:Inv X aa σ H s) (hn:H D=none) (hL:D≠X.env.locals)
  (h1:X.gq.heap.objs.size<=D) (h2:∀ x c,X.env.cells.lookup x=some c->c≠D) (h3:∀ p∈X.pn++aa,p.1≠D) (hu:bR X.prog X.w (upd H D u) s.heap D u):Inv X aa σ (upd H D u) s:=by
 have ne:∀ b u,H b=some u->b≠D:=λb u e z=>by rw [z,hn] at e; cases e
 refine I.step (g':=s.gens) (d':=s.drawn) (t':=s.toks) (h':=s.heap) (ch:=[D]) (λb hb=>?_) (λb o _ _ _ e _=>e) (λb o _ _ _ e _=>⟨o.slots,e⟩) (λb o hc _ n=>?_) (λb o _ e=>⟨o,e⟩)
  (λb xs e=>by rw [aF (ne b _ e)]; exact e) (λb o u e=>by rw [aF (ne b _ e)]; exact e) (λb ps e=>⟨#[],by rw [aF (ne b _ e),e]; simp⟩) (λ_ h=>h) (λb u e=>?_) I.bare
 ·have e:b=D:=by simpa using hb
  subst e
  exact ⟨.inr h1,hL,h2,h3⟩
 ·rw [aF (by simpa using hc)]; exact n
 ·by_cases hb:b=D
  ·subst hb
   rw [aB] at e; cases e
   exact hu
  ·rw [aF hb] at e
   exact (I.ax b u e).d_ (λc v _ q=>q) (λc q=>by rw [aF (ne c _ q)]; exact q) λc xs q=>by rw [aF (ne c _ q)]; exact q
theorem Ho.put {t:Nat} {a:α} (dn:Ho Y D ps) (AO:gk Y.prog Y.w Y.A na a0 Ok) (I:Inv Y ((D,o)::ps) σ H s) (sb:Heap.SameBut D s.heap h') (ok:Ok D a h'):∃ o',Inv Y ((D,o')::ps) σ H { s with heap:=h',toks:=t }:=by
 have hD:=(I.pin (D,o) (Jb _ (Qp ..))).2.1
 have I':Inv Y [] σ H s:=I.h_ λp hp=>by cases hp
 have I11:=I'.turned (t':=t) (it:=D) (λb o hb e=>(sb.2 b hb).trans e) hD dn.L dn.ex dn.c (λp hp=>by rw [We] at hp; exact dn.pn p hp)
 obtain ⟨o',e',c'⟩:=AO.obj ok
 refine ⟨o',I11.h_ λp hp=>?_⟩
 rcases Ql.mp hp with h | h
 ·subst h
  exact ⟨e',hD,dn.L,dn.fs,c'⟩
 ·obtain ⟨a1,a2,a3,a4,a5⟩:=I.pin p (Jb _ (Qk _ h))
  exact ⟨(sb.2 p.1 (dn.ps p h)).trans a1,a2,a3,a4,a5⟩
def pD (Y:Cx) (bd:Env->Addr->Sem Unit) (Ok:Addr->α->Heap->Prop) (tb:α->St->Hp->(α->St->Hp->Prop)->Prop):Prop:=∀ ps s σ H D o a R,Ho Y D ps->Inv Y ((D,o)::ps) σ H s->Ok D a s.heap->tb a σ H R->wpAny (model Y.prog Y.w) Y.A (bd Y.env D) (λ_ s'=>∃ ak H' a' o',Inv Y ((D,o')::ps) ak H' s'/\Ok D a' s'.heap/\R a' ak H') Y.xe s
theorem gk.d_ {a:α} {ak:St} (AO:gk Y.prog Y.w Y.A na a0 Ok) (I:Inv Y ((D,o)::ps) σ H s) (I':Inv Y ((D,o)::ps) ak H' s') (pl:Ok D a s.heap):Ok D a s'.heap :=
 AO.keep pl λ_ e=>(I'.pin (D,o) (Jb _ (Qp ..))).1.trans ((I.pin (D,o) (Jb _ (Qp ..))).1.symm.trans e)
theorem aCM {tn:Nat->Heap->Prop} {a:α} {F:α->St->Hp->Prop} (LO:gc Y.prog Y.w Y.A e d tg iter ifs bd) (AO:gk Y.prog Y.w Y.A na a0 Ok) (hx:∀ v s',¬ Y.xe v s') (hc:Y.calm=true) (T:Turn Y.prog Y.w Y.K tg J fp it tn) (hg:PG Y tg g) (ht:PF Y ifs tt) (hb:pD Y bd Ok tb) (dn:Ho Y D ps) (I0:Inv Y ((D,o)::ps) σ H s) (X3:Ok D a s.heap) (NR:tn 0 s.heap) (f0:∀ b∈fp,sM Y ((D,o)::ps) H b) (w:jv J a σ H F g tt tb) (hR:∀ (s':Shared) (ak:St) (H':Hp) (a':α) (o':Obj),Inv Y ((D,o')::ps) ak H' s'->Ok D a' s'.heap->F a' ak H'->R (.ok .next) s') :
  codeAny (model Y.prog Y.w) Y.A (.compStart e d (.ref it) (.ref D) Y.env) R s:=by
 obtain ⟨W,⟨m0,w0⟩,turn⟩:=w
 have o9:∀ {H':Hp} {o':Obj},(∀ b∈fp,H' b=none)->∀ b∈fp,sM Y ((D,o')::ps) H' b:=λ{H' o'} hn b hb=>by
  obtain ⟨_,q1,q2,q3,q4,q5⟩:=f0 b hb
  refine ⟨hn b hb,q1,q2,q3,q4,λp hp=>?_⟩
  rcases Jg.mp hp with h | h
  ·exact q5 p (Js _ h)
  ·rcases Ql.mp h with h | h
   ·rw [h]; exact q5 (D,o) (Jb _ (Qp ..))
   ·exact q5 p (Jb _ (Qk _ h))
 have loop:codeAny (model Y.prog Y.w) Y.A (.compLoop e d (.ref it) (.ref D) Y.env) R s:=by
  refine aAg LO (λn s'=>∃ i ak H' a o,Inv Y ((D,o)::ps) ak H' s'/\Ok D a s'.heap/\tn i s'.heap/\(∀ b∈fp,H' b=none)/\W i n a ak H') ?_ m0 ⟨0,σ,H,a,o,I0,X3,NR,λb hb=>(f0 b hb).1,w0⟩
  rintro n s5 ⟨i,C2,H5,ys,o,I5,Od,Ck,Gv,w5⟩
  rcases turn i n ys C2 H5 w5 with ⟨stop,qn⟩ | ⟨go,N,hN,step⟩
  ·refine Rj (T.done Y rfl rfl rfl hc i _ s5 C2 H5 (λ_ _=>False) I5 (o9 Gv) Ck stop) (λr s6 ay=>?_) λ_ _ z=>z
   obtain ⟨hr,I6⟩:=ay
   subst hr
   exact hR s6 C2 H5 ys o I6 (AO.d_ I5 I6 Od) qn
  ·refine Rj (T.item Y rfl rfl rfl hc i _ s5 C2 H5 (λ_ _=>False) I5 (o9 Gv) Ck go) (λr s6 ay=>?_) λ_ _ z=>z
   obtain ⟨u,hr,h6⟩:=ay
   subst hr
   refine Rj h6 (λ_ s7 ay=>?_) λ_ _ z=>z
   obtain ⟨x,H7,I7,r7,y7,HH,o!⟩:=ay
   have I7':=I7.pinned (o9 o!) (T.obj _ _ HH)
   refine Rj (hg _ s7 C2 H7 x u _ I7' r7 (step x H7 y7)) (λ_ s8 ay=>?_) λv s' z=>hx v s' z
   obtain ⟨Hq,H8,I8,q8⟩:=ay
   refine Rj (ht _ s8 Hq H8 _ I8 q8) (λb s9 ay=>?_) λv s' z=>hx v s' z
   obtain ⟨H9,I9,q9⟩:=ay
   have Oc:Ok D ys s9.heap:=AO.d_ I5 (I9.ia:Inv Y ((D,o)::ps) Hq H9 s9) Od
   have fin:∀ {s':Shared} {ak:St} {H':Hp} {o':Obj} {a':α},Inv Y ((D,o')::(ps++rB fp s7.heap)) ak H' s'->Ok D a' s'.heap->N a' ak H'->∃ m,m < n/\∃ i ak H' a o,Inv Y ((D,o)::ps) ak H' s'/\Ok D a s'.heap/\tn i s'.heap/\(∀ b∈fp,H' b=none)/\W i m a ak H':=λ{s' ak H' o' a'} I' ok q=>by
    obtain ⟨m',hm,w'⟩:=hN a' ak H' q
    have pin:=λb (hb:b∈fp) o e=>I'.pin (b,o) (Jb _ (Qk _ (Jb _ (oY hb e))))
    refine ⟨m',hm,i+1,ak,H',a',o',I'.h_ λp hp=>I'.pin p (Jb _ ?_),ok,T.keep _ _ _ HH λb hb o e=>(pin b hb o e).1,λb hb=>?_,w'⟩
    ·rcases Ql.mp hp with h | h
     ·exact h ▸ Qp ..
     ·exact Qk _ (Js _ h)
    ·obtain ⟨o,e,_⟩:=T.obj _ _ HH b hb
     exact (pin b hb o e).2.1
   cases b with
   | false =>
    rw [if_neg Qu] at q9
    rw [if_neg Qu]
    exact fin I9 Oc q9
   | true =>
    rw [if_pos rfl] at q9
    rw [if_pos rfl]
    refine Rj (hb (ps++rB fp s7.heap) s9 Hq H9 D o ys _ ⟨dn.L,dn.ex,dn.c,dn.pn,dn.fs,λp hp=>?_⟩ I9 Oc q9) (λ_ s11 ay=>?_) λv s' z=>hx v s' z
    ·rcases Jg.mp hp with h | h
     ·exact dn.ps p h
     ·exact λq=>(f0 p.1 (wL h).1).2.2.2.2.2 (D,_) (Jb _ (Qp ..)) q.symm
    ·obtain ⟨ak,H',a',o',I',ok,q⟩:=ay
     exact fin I' ok q
 exact LO.start loop (T.self Y.A 0 _ _ _ NR loop)
theorem aBe {s2:Shared} {tn:Nat->Heap->Prop} {RR:Value->Addr->Result->Shared->Prop} {Q:α->Hp->Prop} (S:bx X scope z own fr bo) (LO:gc X.prog X.w X.A e 0 tg iter ifs bd) (AO:gk X.prog X.w X.A na a0 Ok) (hc:X.calm=true) (I2:Inv X aa σ H2 s2) (T:Turn X.prog X.w X.K tg J fp it tn) (gv:tn 0 s2.heap) (f2:∀ b∈fp,sM X aa H2 b) (hg:∀ C s0 H0 fp,PG (bX X scope z (own++bo) C s0 H0 fp) tg g) (ht:∀ C s0 H0 fp,PF (bX X scope z (own++bo) C s0 H0 fp) ifs tt) (hb:∀ C s0 H0 fp,pD (bX X scope z (own++bo) C s0 H0 fp) bd Ok tb) (w:jv J a0 (d7 own.length fr σ) H2 (λa _ H=>Q a H) g tt tb) (d?:∀ (C D:Addr) (s':Shared) (H':Hp) (ys:α) (m:Str->Option Value),s2.heap.objs.size<=C->s2.heap.objs.size<=D->D≠C->s'.heap.Ns C m->H' C=none->H' D=none->Ok D ys s'.heap->Inv X aa σ H' s'->Q ys H'->RR (.ref D) C (.ok .next) s') :
  wpAny (model X.prog X.w) X.A na (λacc zf=>wpAny (model X.prog X.w) X.A (newFunctionEnv scope X.env.globals (gG X.env scope.names []) [] X.env.qual none .none (some X.env)) (λFg XW =>
   codeAny (model X.prog X.w) X.A (.compStart e 0 (.ref it) acc { Fg with scope:=relabel scope X.env }) (RR acc Fg.locals) XW) E zf) E s2:=by
 obtain ⟨o0,n0,f0,k0,nw⟩:=AO.new
 refine nw (S.env λka tk vo ol fh=>?_)
 dsimp only at vo ol fh ⊢
 generalize Ko:s2.heap.push o0=HD at vo ol fh ⊢
 have hCs:HD.objs.size=s2.heap.objs.size+1:=by rw [<- Ko,Jm]
 have yk:s2.heap.objs.size≠HD.objs.size:=by omega
 have yz:s2.heap.objs.size<=HD.objs.size:=by omega
 have below:∀ b,b < s2.heap.objs.size->b≠HD.objs.size/\b≠s2.heap.objs.size:=λb hb=>⟨by omega,by omega⟩
 have old:∀ b o,s2.heap.get? b=some o->ka.get? b=some o:=λb o e=>ol b o (Ko ▸ Qc _ e)
 have E9:ka.get? s2.heap.objs.size=some o0:=ol _ _ (Ko ▸ Qj _ f0)
 have wx:∀ b∈fp,b < s2.heap.objs.size:=λb hb=>by
  obtain ⟨o,e,_⟩:=T.obj _ _ gv b hb
  exact Qo e
 generalize Be:s2.heap.objs.size=D at *
 generalize hCg:HD.objs.size=C at *
 have xg:tn 0 ka:=T.keep _ _ _ gv λb _ o e=>old b o e
 have wm:∀ x c,(zc z C++gG X.env scope.names []).lookup x=some c->c=C+1∨X.env.cells.lookup x=some c:=λx c e=>by
  rcases lQ e with ⟨_,e⟩ | ⟨_,e⟩
  ·exact .inl e
  ·rcases mS _ _ _ _ (kJ e) with q | q
   ·cases q
   ·exact .inr q
 have I3:Inv (bX X scope z (own++bo) C s2 H2 fp) [(D,_)] (d7 own.length fr σ) H2 { s2 with heap:=ka,toks:=tk } :=
  aDC (m:=λ_=>none) I2 S f2 (by rw [Be]; exact wx) (by rw [Be]; exact yz) (vo:ka.Ns C _) old (by rw [Be]; exact Qh _) yk E9 n0 fh
 refine aCM (Y:=bX X scope z (own++bo) C s2 H2 fp) LO AO (λ_ _ z=>z) hc T (hg C s2 H2 fp) (ht C s2 H2 fp) (hb C s2 H2 fp) ⟨yk,.inr (by show s2.heap.objs.size<=D; rw [Be]; exact Qh _),λx c e q=>?_,λp hp=>(by cases hp),λz=>?_,λp hp=>(by cases hp)⟩ I3 (k0 _ _ E9) xg (λb hb=>?_) w (λs6 Nz H6 a o I6 pl qn=>?_)
 ·rcases wm x c e with e | e
  ·exact Jl _ (Qq (Xn C) (Ja (Zt (e.symm.trans q)) yz))
  obtain ⟨v,u⟩:=I2.cell x c e
  exact Jl _ (Qq u.lt (by rw [Be,q]; exact Qh _))
 ·rcases Ql.mp (I2.ir D z) with e | e
  ·exact Jl _ (Qq I2.lt (by rw [Be,e]; exact Qh _))
  ·exact I2.BH (by rw [Be]; exact Qh _) e
 ·refine ⟨(f2 b hb).1,(below b (wx b hb)).1,λz=>?_,.inl hb,λx c e=>(by
   rcases wm x c e with e | e
   ·exact λq=>Jl _ (Qq (wx b hb) (by rw [<- q,e]; exact Xq yz))
   ·exact (f2 b hb).2.2.2.2.1 x c e),λp hp=>?_⟩
  ·have z':b∈dj X.stack:=z
   rcases Ql.mp (I2.ir b z') with e | e
   ·exact (f2 b hb).2.1 e
   ·exact (f2 b hb).2.2.1 e
  ·rw [Qx.mp (show p∈[(D,o0)] from hp)]
   exact Ne.symm (below b (wx b hb)).2
 ·obtain ⟨m6,gh,_⟩:=I6.loc
  have p6:=I6.pin (D,o) (Jb _ (Qp ..))
  have IX:Inv X aa σ H6 s6:=I2.nk (ch:=fp) I6.os I6.base I6.ax I6.bare λb hb=>⟨(f2 b hb).2.2.2.1,(f2 b hb).2.1,(f2 b hb).2.2.2.2.1,(f2 b hb).2.2.2.2.2⟩
  exact d? C D s6 H6 a m6 yz (Qh _) yk gh I6.free p6.2.1 pl IX qn
theorem U4 {R:Value->Shared->Prop} {use:Option (Value->Sem Unit)} {q:α->Hp->Prop} (S:bx X scope z own fr bo) (cl:clausesOf e=⟨tg,iter,ifs,0⟩::gs) (LO:gc X.prog X.w X.A e 0 tg iter ifs bd) (AO:gk X.prog X.w X.A na a0 Ok) (hc:X.calm=true) (hi:PI X tg iter wi) (hg:∀ C s0 H0 fp,PG (bX X scope z (own++bo) C s0 H0 fp) tg g) (ht:∀ C s0 H0 fp,PF (bX X scope z (own++bo) C s0 H0 fp) ifs tt)
  (hb:∀ C s0 H0 fp,pD (bX X scope z (own++bo) C s0 H0 fp) bd Ok tb) (hs:∀ x,foldedSetIterable iter X.env x=pure x) (I:Inv X aa σ H s)
  (h:wi σ H λJ H1=>jv J a0 (d7 own.length fr σ) H1 (λa _ H=>q a H) g tt tb)
  (hq:∀ (C D:Addr) (s':Shared) (H':Hp) (a:α) (m:Str->Option Value),D≠C->s'.heap.Ns C m->H' C=none->H' D=none->Ok D a s'.heap->Inv X aa σ H' s'->q a H' ->
   (∀ b,b=C∨b=D->b≠X.env.locals/\X.gq.heap.objs.size<=b/\sysModules < b/\(∀ x c,X.env.cells.lookup x=some c->c≠b)/\∀ p∈X.pn++aa,p.1≠b)->compPost (model X.prog X.w) X.A X.xe use R (.ref D) C (.ok .next) s') :
  wpAny (model X.prog X.w) X.A (comprehension e scope X.env pos na false (eval iter X.env) use) R X.xe s:=by
 obtain ⟨p1,p2,p3,p4,p5,p7,p9⟩:=S.parts
 refine wpAny_comprehension_free cl hs (S9 λy hy e=>I.ok.has y.1 (p4 y hy e)) p1 p3 (bh (hi aa s σ H _ I h) λv s1 h1=>bh h1 λIS s2 h2=>?_)
 obtain ⟨it,fp,tn,J,H2,e,I2,T,gv,f2,hw⟩:=h2
 subst e
 refine aBe (RR:=λacc C=>compPost (model X.prog X.w) X.A X.xe use R acc C) S LO AO hc I2 T gv f2 hg ht hb hw λC D s' H' a m hC hD yk jg DS Bc pl IX z=>hq C D s' H' a m yk jg DS Bc pl IX z λb hb=>?_
 have d9:s2.heap.objs.size<=b:=by rcases hb with rfl | rfl; exact hC; exact hD
 exact ⟨λz=>Jl _ (Qq I2.lt (by rw [<- z]; exact d9)),Ja I2.sz d9,Qq (Yg (by decide) (I2.mod.glob.keeps I2.bk).lt) d9,λx c e z=>by
  obtain ⟨v,w⟩:=I2.cell x c e
  exact Jl _ (Qq w.lt (by rw [z]; exact d9)),λp hp z=>Jl _ (Qq (Qo (I2.pin p hp).1) (by rw [z]; exact d9))⟩
theorem U3 {hq:(V->Hp->Prop)->α->Hp->Prop} (S:bx X scope z own fr bo) (cl:clausesOf e=⟨tg,iter,ifs,0⟩::gs) (LO:gc X.prog X.w X.A e 0 tg iter ifs bd) (AO:gk X.prog X.w X.A na a0 Ok) (hc:X.calm=true) (ev:eval e X.env=comprehension e scope X.env pos na false (eval iter X.env) none) (hi:PI X tg iter wi) (hg:∀ C s0 H0 fp,PG (bX X scope z (own++bo) C s0 H0 fp) tg g) (ht:∀ C s0 H0 fp,PF (bX X scope z (own++bo) C s0 H0 fp) ifs tt)
  (hb:∀ C s0 H0 fp,pD (bX X scope z (own++bo) C s0 H0 fp) bd Ok tb) (hs:∀ x,foldedSetIterable iter X.env x=pure x)
  (tr:∀ {D:Addr} {a:α} {H:Hp} {h:Heap} {Q:V->Hp->Prop},Ok D a h->H D=none->(D==sysModules)=false->hq Q a H->∃ u,bR X.prog X.w (upd H D u) h D u/\Q (.ref D) (upd H D u)) :
  PE X e λσ H Q=>wi σ H λJ H1=>jv J a0 (d7 own.length fr σ) H1 (λa _ H=>hq Q a H) g tt tb:=by
 intro aa s σ H Q I h
 rw [ev]
 refine U4 (use:=none) S cl LO AO hc hi hg ht hb hs I h λC D s' H' a m yk jg DS Bc pl IX q ne=>?_
 obtain ⟨c1,c2,_,c3,c4⟩:=ne C (.inl rfl)
 obtain ⟨d1,d2,d5,d3,d4⟩:=ne D (.inr rfl)
 obtain ⟨u,ou,qu⟩:=tr pl Bc (beq_eq_false_iff_ne.mpr (Ne.symm (Qy d5))) q
 refine ⟨m,jg,λh' dz=>⟨.ref D,upd H' D u,?_,rfl,qu⟩⟩
 exact (IX.vq Bc d1 d2 d3 d4 ou).turned (t':=s'.toks) (it:=C) (λb o hb e=>(dz.2 b hb).trans e) (by rw [aF (Ne.symm yk)]; exact DS) c1 (.inr c2) c3 c4
def Ep (D:Addr) (ys:List V) (h:Heap):Prop:=ys.length<=sizeLine/\∃ ag:Array Value,h.PlainList D ag/\bH ys ag.toList
def RH (elt:Expr) (env:Env) (D:Addr):Sem Unit:=do let _<-call (.builtin "list.append") [.ref D,<- eval elt env]
theorem GQ:gk P w A (newList []) [] Ep where
 new:=⟨{ cls:=.type "list",dict:=none,data:=.seq ([]:List Value).toArray },λv z=>(by cases z),rfl,λh D e=>⟨Jt _,#[],⟨_,e⟩,.nil⟩,λh=>Rq h⟩
 keep:=λ⟨hl,ag,⟨k,e⟩,v⟩ f=>⟨hl,ag,⟨k,f _ e⟩,v⟩
 obj:=λ⟨_,ag,⟨k,e⟩,_⟩=>⟨_,e,λv z=>by cases z⟩
theorem Sv:gc P w A (.ListComp elt [⟨tg,iter,ifs,0⟩] scope pos) 0 tg iter ifs (RH elt) where
 FC:=λ_ _ _=>⟨rfl,rfl⟩
 turn:=λit D env=>compTurn_list elt tg iter ifs scope pos it (.ref D) env
 start:=codeAny_compStart_list
theorem RW (he:PE Y elt te):pD Y (RH elt) Ep (oi te):=by
 intro ps s σ H D o ys R dn I pl h
 refine Ra (bh (he _ s σ H _ I h) λy s1 hx=>?_)
 obtain ⟨yv,H1,I1,r1,lt,q⟩:=hx
 obtain ⟨hl,ag,X2,v⟩:=GQ.d_ I I1 pl
 have hlen:=v.length
 refine Ra (wpAny_list_append_plain X2 (λGs BG BD=>Rc ?_) (by rw [<- Array.length_toList,<- hlen]; exact Jh lt))
 have ok:Ep D (ys++[yv]) Gs:=⟨by rw [Qg]; exact lt,_,BG,by rw [Array.toList_push]; exact v.append (.cons r1 .nil)⟩
 obtain ⟨o',I'⟩:=dn.put (t:=s1.toks) GQ I1 BD ok
 exact ⟨σ,H1,_,o',I',ok,q⟩
theorem XF {Q:V->Hp->Prop} {D:Addr} (ok:Ep D ys h) (hn:H D=none) (q:∀ p,H p=none->Q (.ref p) (upd H p (.lst ys))):∃ u,bR P w (upd H D u) h D u/\Q (.ref D) (upd H D u) :=
 let ⟨hl,ag,⟨k,e⟩,v⟩:=ok; ⟨.lst ys,⟨hl,ag.toList,k,v,by simpa using e⟩,q _ hn⟩
theorem gD (S:bx X scope z own fr bo) (hc:X.calm=true) (hi:PI X tg iter wi) (hg:∀ C s0 H0 fp,PG (bX X scope z (own++bo) C s0 H0 fp) tg g) (ht:∀ C s0 H0 fp,PF (bX X scope z (own++bo) C s0 H0 fp) ifs tt) (he:∀ C s0 H0 fp,PE (bX X scope z (own++bo) C s0 H0 fp) elt te) (hs:∀ x,foldedSetIterable iter X.env x=pure x:=by intro _; rfl) :
  PE X (.ListComp elt [⟨tg,iter,ifs,0⟩] scope pos) (Sw own.length fr wi g tt te) :=
 U3 S rfl Sv GQ hc (eval_ListComp ..) hi hg ht (λC s0 H0 fp=>RW (he C s0 H0 fp)) hs λok hn _ q=>XF ok hn q
theorem aAk {tb:List V->St->Hp->(List V->St->Hp->Prop)->Prop} {y:Str} {py u9:Pos} (S:bx X scope z own fr bo) (LO:gc X.prog X.w X.A (.ListComp elt (⟨tg,iter,ifs,0⟩::gs) scope pos) 0 tg iter ifs bd) (hc:X.calm=true) (hN:X.N.Nodup) (IY:X.N[i]?=some y) (hx:X.env.scope.names.lookup y=some .local) (JD:swapsWith (.ListComp elt (⟨tg,iter,ifs,0⟩::gs) scope pos) (some (.Name y py)) u9.line X.env=pure true) (hi:PI X tg iter wi) (hg:∀ C s0 H0 fp,PG (bX X scope z (own++bo) C s0 H0 fp) tg g) (ht:∀ C s0 H0 fp,PF (bX X scope z (own++bo) C s0 H0 fp) ifs tt) (hb:∀ C s0 H0 fp,pD (bX X scope z (own++bo) C s0 H0 fp) bd Ep tb) (hs:∀ x,foldedSetIterable iter X.env x=pure x) :
  PS X (.Assign [.Name y py] (.ListComp elt (⟨tg,iter,ifs,0⟩::gs) scope pos) u9) (Bo (λσ H Q=>wi σ H λJ H1=>jv J [] (d7 own.length fr σ) H1 (λys _ H=>∀ p,H p=none->Q (.ref p) (upd H p (.lst ys))) g tt tb) (bN i)):=by
 intro aa s σ H D I h
 rw [exec_Assign_Name_used _ _ _ _ JD]
 refine Ra (Va (Ra ?_))
 show wpAny _ X.A (do let _<-comprehension (.ListComp elt (⟨tg,iter,ifs,0⟩::gs) scope pos) scope X.env _ (newList []) false (eval iter X.env) (some (assign (.Name y py) X.env))) _ _ s
 refine Ra (Rj (U4 (use:=some (assign (.Name y py) X.env)) (R:=λ_ s'=>SP X aa D .next s') S rfl LO GQ hc hi hg ht hb hs I h λC L s' H' ys m j! jg DS PV pl IX q ne=>?_) (λ_ s' hq=>Rc (Rc hq)) λ_ _ e=>e)
 obtain ⟨c1,c2,_,c3,c4⟩:=ne C (.inl rfl)
 obtain ⟨d1,d2,_,d3,d4⟩:=ne L (.inr rfl)
 obtain ⟨hl,ag,⟨k,e⟩,v⟩:=pl
 have IT:Inv X aa σ (upd H' L (.lst ys)) s':=IX.vq PV d1 d2 d3 d4 ⟨hl,ag.toList,k,v,by simpa using e⟩
 show wpAny _ _ (assign (.Name y py) X.env (.ref L)) _ _ s'
 refine Rae (qZ IT hN IY (.inl hx) (v:=.ref L) rfl (λAI By tm=>?_) (.inr hx))
 obtain ⟨a,sb,ha⟩:=tm
 have l!:C≠a:=by
  rcases ha with e | e
  ·rw [e]; exact c1
  ·exact Ne.symm (c3 y a e)
 refine ⟨m,jg.sameBut sb l!,λh' dz=>⟨σ.set i (some (.ref L)),upd H' L (.lst ys),?_,q L PV⟩⟩
 exact By.turned (t':=AI.toks) (it:=C) (λb o hb e=>(dz.2 b hb).trans e) (by rw [aF (Ne.symm j!)]; exact DS) c1 (.inr c2) c3 c4
theorem lR {y:Str} {py u9:Pos} (S:bx X scope z own fr bo) (hc:X.calm=true) (hN:X.N.Nodup) (IY:X.N[i]?=some y) (hx:X.env.scope.names.lookup y=some .local) (JD:swapsWith (.ListComp elt [⟨tg,iter,ifs,0⟩] scope pos) (some (.Name y py)) u9.line X.env=pure true) (hi:PI X tg iter wi) (hg:∀ C s0 H0 fp,PG (bX X scope z (own++bo) C s0 H0 fp) tg g) (ht:∀ C s0 H0 fp,PF (bX X scope z (own++bo) C s0 H0 fp) ifs tt) (he:∀ C s0 H0 fp,PE (bX X scope z (own++bo) C s0 H0 fp) elt te) (hs:∀ x,foldedSetIterable iter X.env x=pure x:=by intro _; rfl) :
  PS X (.Assign [.Name y py] (.ListComp elt [⟨tg,iter,ifs,0⟩] scope pos) u9) (Bo (Sw own.length fr wi g tt te) (bN i)) :=
 aAk S Sv hc hN IY hx JD hi hg ht (λC s0 H0 fp=>RW (he C s0 H0 fp)) hs
end
inductive Kd where
 | int | bl | br | str | tup | lst | Q9
 deriving DecidableEq
def Bw (K:Rb) (H:Hp):V->Kd->Prop
 | .int _,k=>k=.int
 | .bl _,k=>k=.bl
 | .br,k=>k=.br
 | .str _,k=>k=.str
 | .ref p,k=>(k=.lst/\∃ xs,au K H p xs)∨(k=.tup/\∃ xs,aq K H p xs)∨(k=.Q9/\∃ kvs,H p=some (.dK kvs))
 | _,_=>False
theorem yA {σ:St} (I:Inv X aa σ H s) (h:H p=some (.dK kvs)):∃ o,s.heap.get? p=some o/\o.cls=.type "dict" := by
 obtain ⟨_,_,vs,_,o,es,ep,e,ex,_⟩:=I.ax p _ h
 exact ⟨o,e,ex.1⟩
theorem pY:eT X (.builtin "isinstance") (λxs H Q=>∃ x k,xs = [x,.ty "int"]/\Bw X.K H x k/\Q (.bl (decide (k=.int∨k=.bl))) H):=by
 intro aa s σ H xs us Q I r h
 obtain ⟨x,k,rfl,hk,q⟩:=h
 obtain ⟨u,t,rfl,rx,rt⟩:=rY r
 cases rt
 cases x with
 | int i=>cases hk; obtain ⟨t,rfl⟩:=rx; exact IsiPair.int_int ⟨.bl true,H,I,rfl,q⟩
 | bl b=>cases hk; cases rx; exact IsiPair.bool_int ⟨.bl true,H,I,rfl,q⟩
 | br=>cases hk; cases rx; exact IsiPair.NoneType_int ⟨.bl false,H,I.tok _,rfl,q⟩
 | str y=>cases hk; obtain ⟨t,rfl⟩:=rx; exact IsiPair.str_int ⟨.bl false,H,I.tok _,rfl,q⟩
 | ref p =>
  cases rx
  rcases hk with ⟨rfl,xs,hx⟩ | ⟨rfl,xs,hx⟩ | ⟨rfl,kvs,hx⟩
  ·obtain ⟨ag,r',pl,hz⟩:=I.list hx; exact IsiPair.isList_int pl.isList (λ_ _ e=>e) ⟨.bl false,H,I.tok _,rfl,q⟩
  ·obtain ⟨ag,r',pl,hz⟩:=I.tuple hx; exact IsiPair.isTuple_int pl (λ_ _ e=>e) ⟨.bl false,H,I.tok _,rfl,q⟩
  ·obtain ⟨o,e,c⟩:=yA I hx; exact IsiPair.dict_int e c ⟨.bl false,H,I.tok _,rfl,q⟩
 | _=>exact hk.elim
theorem oM:eT X (.builtin "isinstance") (λxs H Q=>∃ x k,xs = [x,.ty "bool"]/\Bw X.K H x k/\Q (.bl (decide (k=.bl))) H):=by
 intro aa s σ H xs us Q I r h
 obtain ⟨x,k,rfl,hk,q⟩:=h
 obtain ⟨u,t,rfl,rx,rt⟩:=rY r
 cases rt
 cases x with
 | int i=>cases hk; obtain ⟨t,rfl⟩:=rx; exact IsiPair.int_bool ⟨.bl false,H,I.tok _,rfl,q⟩
 | bl b=>cases hk; cases rx; exact IsiPair.bool_bool ⟨.bl true,H,I,rfl,q⟩
 | br=>cases hk; cases rx; exact IsiPair.NoneType_bool ⟨.bl false,H,I.tok _,rfl,q⟩
 | str y=>cases hk; obtain ⟨t,rfl⟩:=rx; exact IsiPair.str_bool ⟨.bl false,H,I.tok _,rfl,q⟩
 | ref p =>
  cases rx
  rcases hk with ⟨rfl,xs,hx⟩ | ⟨rfl,xs,hx⟩ | ⟨rfl,kvs,hx⟩
  ·obtain ⟨ag,r',pl,hz⟩:=I.list hx; exact IsiPair.isList_bool pl.isList (λ_ _ e=>e) ⟨.bl false,H,I.tok _,rfl,q⟩
  ·obtain ⟨ag,r',pl,hz⟩:=I.tuple hx; exact IsiPair.isTuple_bool pl (λ_ _ e=>e) ⟨.bl false,H,I.tok _,rfl,q⟩
  ·obtain ⟨o,e,c⟩:=yA I hx; exact IsiPair.dict_bool e c ⟨.bl false,H,I.tok _,rfl,q⟩
 | _=>exact hk.elim
theorem cW:eT X (.builtin "isinstance") (λxs H Q=>∃ x k,xs = [x,.ty "tuple"]/\Bw X.K H x k/\Q (.bl (decide (k=.tup))) H):=by
 intro aa s σ H xs us Q I r h
 obtain ⟨x,k,rfl,hk,q⟩:=h
 obtain ⟨u,t,rfl,rx,rt⟩:=rY r
 cases rt
 cases x with
 | int i=>cases hk; obtain ⟨t,rfl⟩:=rx; exact IsiPair.int_tuple ⟨.bl false,H,I.tok _,rfl,q⟩
 | bl b=>cases hk; cases rx; exact IsiPair.bool_tuple ⟨.bl false,H,I.tok _,rfl,q⟩
 | br=>cases hk; cases rx; exact IsiPair.NoneType_tuple ⟨.bl false,H,I.tok _,rfl,q⟩
 | str y=>cases hk; obtain ⟨t,rfl⟩:=rx; exact IsiPair.str_tuple ⟨.bl false,H,I.tok _,rfl,q⟩
 | ref p =>
  cases rx
  rcases hk with ⟨rfl,xs,hx⟩ | ⟨rfl,xs,hx⟩ | ⟨rfl,kvs,hx⟩
  ·obtain ⟨ag,r',pl,hz⟩:=I.list hx; exact IsiPair.isList_tuple pl.isList (λ_ _ e=>e) ⟨.bl false,H,I.tok _,rfl,q⟩
  ·obtain ⟨ag,r',pl,hz⟩:=I.tuple hx; exact IsiPair.isTuple_tuple pl (λ_ _ e=>e) ⟨.bl true,H,I,rfl,q⟩
  ·obtain ⟨o,e,c⟩:=yA I hx; exact IsiPair.dict_tuple e c ⟨.bl false,H,I.tok _,rfl,q⟩
 | _=>exact hk.elim
theorem aCN (bs:List Bool) (tr:Nat->Bool) (h:∀ i b,bs[i]?=some b->tr i=b):(List.range bs.length).all tr=bs.all id:=by
 rw [Xl,Jv,Jv]
 constructor
 ·intro q b hb
  obtain ⟨i,hi⟩:=Wi hb
  have:=q i (Zg.mpr (Qa.mp hi).1)
  rw [h i b hi] at this
  exact this
 ·intro q i hi
  have wg:=Zg.mp hi
  have e:bs[i]?=some bs[i]:=Qb wg
  rw [h i _ e]
  exact q _ (Yy wg)
theorem kU (hc:X.calm=true):eT X (.builtin "all") (λxs H Q=>∃ (p:Addr) (bs:List Bool),xs = [.ref p]/\au X.K H p (bs.map V.bl)/\Q (.bl (bs.all id)) H):=by
 intro aa s σ H xs us Q I r h
 obtain ⟨p,bs,rfl,hx,q⟩:=h
 obtain ⟨u,rfl,rx⟩:=iA r
 cases rx
 obtain ⟨ag,rv,pl,hz⟩:=I.list hx
 have hl:=rv.length
 rw [Qd] at hl
 have bw:p < s.heap.objs.size:=by obtain ⟨o,n,e,_⟩:=pl; exact Qo e
 refine call_all_walk (Uk pl.isList ?_)
 refine ⟨s.heap.objs.size,_,_,_,_,_,λi=>(bs[i]?).getD false,rfl,Walks.list (A:=X.A.in1) (I.ok.hd hc) s.heap.objs.size p (Qy bw) ag.toArray,⟨⟨_,Qj _ rfl,rfl,rfl⟩,pl.isList.push _⟩,?_,λh' tk hk=>?_⟩
 ·intro i v s' Q' E' hP DN
  have r6:ag[i]?=some v:=by simpa using hP
  have hi:i < bs.length:=by rw [hl]; exact (Qa.mp r6).1
  obtain ⟨w,hw,fu⟩:=rv.get (i:=i) (x:=.bl bs[i]) (by rw [Qi,Qb hi]; rfl)
  rw [hw] at r6
  cases r6
  cases fu
  have e:(bs[i]?).getD false=bs[i]:=by rw [Qb hi]; rfl
  rw [<- e]
  exact Td DN
 ·have e:(List.range ag.toArray.size).all (λi=>(bs[i]?).getD false)=bs.all id:=by
   rw [Qm,<- hl]
   exact aCN bs _ λi b hb=>by rw [hb]; rfl
  rw [e]
  refine ⟨.bl _,H,I.kept (h':=h') λb o e=>hk b o ?_ (Qc _ e),rfl,q⟩
  intro z
  have z':b=s.heap.objs.size:=by simpa using z
  exact Jl _ (z' ▸ Qo e)
mutual
def Den (K:Rb) (H:Hp):PyData->V->Prop
 | .none,v=>v=.br
 | .bool b,v=>v=.bl b
 | .int i,v=>v=.int i
 | .str x,v=>v=.str x
 | .list ds,v=>∃ a xs,v=.ref a/\au K H a xs/\bP K H ds xs
 | .tuple ds,v=>∃ a xs,v=.ref a/\aq K H a xs/\bP K H ds xs
 | .dict kvs,v=>kvs = []/\∃ a,v=.ref a/\H a=some (.dK [])
def bP (K:Rb) (H:Hp):List PyData->List V->Prop
 | [],xs=>xs = []
 | d::ds,xs=>∃ x r,xs=x::r/\Den K H d x/\bP K H ds r
end
theorem aD.rd {a:Addr} {u:HO} (e:aD H H') (h:Rd H a u):Rd H' a u:=by
 rcases h with h | ⟨o,h⟩
 ·exact .inl (e a u h)
 ·exact .inr ⟨o,e a _ h⟩
theorem aD.jm {a:Addr} (e:aD H H') (h:au K H a xs):au K H' a xs:=by
 rcases h with h | h
 ·exact .inl (e.rd h)
 ·exact .inr h
theorem aD.ah {a:Addr} (e:aD H H') (h:aq K H a xs):aq K H' a xs:=by
 rcases h with h | h
 ·exact .inl (e.rd h)
 ·exact .inr h
theorem aD.new {o:HO} (h:H p=none):aD H (upd H p o):=λb u e=>by rw [aF (iN e h)]; exact e
mutual
theorem aD.den (e:aD H H'):∀ (d:PyData) (v:V),Den K H d v->Den K H' d v
 | .none,v,h=>by unfold Den at h ⊢; exact h
 | .bool b,v,h=>by unfold Den at h ⊢; exact h
 | .int i,v,h=>by unfold Den at h ⊢; exact h
 | .str x,v,h=>by unfold Den at h ⊢; exact h
 | .list ds,v,h=>by unfold Den at h ⊢; obtain ⟨a,xs,h1,h2,h3⟩:=h; exact ⟨a,xs,h1,e.jm h2,aD.cu e ds xs h3⟩
 | .tuple ds,v,h=>by unfold Den at h ⊢; obtain ⟨a,xs,h1,h2,h3⟩:=h; exact ⟨a,xs,h1,e.ah h2,aD.cu e ds xs h3⟩
 | .dict kvs,v,h=>by unfold Den at h ⊢; obtain ⟨h1,a,h2,h3⟩:=h; exact ⟨h1,a,h2,e a _ h3⟩
theorem aD.cu (e:aD H H'):∀ (ds:List PyData) (xs:List V),bP K H ds xs->bP K H' ds xs
 | [],xs,h=>by unfold bP at h ⊢; exact h
 | d::ds,xs,h=>by unfold bP at h ⊢; obtain ⟨x,r,h1,h2,h3⟩:=h; exact ⟨x,r,h1,aD.den e d x h2,aD.cu e ds r h3⟩
end
theorem cF {i:Int}:Den K H (.int i) v↔v=.int i:=by unfold Den; exact Iff.rfl
theorem tV {b:Bool}:Den K H (.bool b) v↔v=.bl b:=by unfold Den; exact Iff.rfl
theorem tW:Den K H .none v↔v=.br:=by unfold Den; exact Iff.rfl
theorem sS {x:Str}:Den K H (.str x) v↔v=.str x:=by unfold Den; exact Iff.rfl
theorem kW:Den K H (.list ds) v↔∃ a xs,v=.ref a/\au K H a xs/\bP K H ds xs:=by
 constructor
 ·intro h; unfold Den at h; exact h
 ·intro h; unfold Den; exact h
theorem bC:Den K H (.tuple ds) v↔∃ a xs,v=.ref a/\aq K H a xs/\bP K H ds xs:=by
 constructor
 ·intro h; unfold Den at h; exact h
 ·intro h; unfold Den; exact h
theorem U2 {kvs:List (PyData×PyData)}:Den K H (.dict kvs) v↔kvs = []/\∃ a,v=.ref a/\H a=some (.dK []):=by
 constructor
 ·intro h; unfold Den at h; exact h
 ·intro h; unfold Den; exact h
theorem bY:bP K H [] xs↔xs = []:=by unfold bP; exact Iff.rfl
theorem bG:bP K H (d::ds) xs↔∃ x r,xs=x::r/\Den K H d x/\bP K H ds r:=by
 constructor
 ·intro h; unfold bP at h; exact h
 ·intro h; unfold bP; exact h
theorem bZ:∀ {ds:List PyData} {xs:List V},bP K H ds xs->xs.length=ds.length
 | [],xs,h=>by rw [bY.mp h]; rfl
 | d::ds,xs,h=>by
  obtain ⟨x,r,rfl,_,h3⟩:=bG.mp h
  rw [Jo,Jo,bZ h3]
theorem tX:∀ {ds:List PyData} {xs:List V} {i:Nat} {d:PyData},bP K H ds xs->ds[i]?=some d->∃ x,xs[i]?=some x/\Den K H d x
 | [],_,_,_,_,e=>by simp at e
 | d::ds,xs,0,d',h,e=>by
  obtain ⟨x,r,rfl,h2,_⟩:=bG.mp h
  simp at e; subst e
  exact ⟨x,rfl,h2⟩
 | d::ds,xs,i+1,d',h,e=>by
  obtain ⟨x,r,rfl,_,h3⟩:=bG.mp h
  obtain ⟨y,h4,h5⟩:=tX (i:=i) (d:=d') h3 (by simpa using e)
  exact ⟨y,by simpa using h4,h5⟩
theorem kX {x:V} (h:bP K H ds xs) (e:xs[i]?=some x):∃ d,ds[i]?=some d/\Den K H d x:=by
 have hl:=bZ h
 have hi:i < ds.length:=by rw [<- hl]; exact (Qa.mp e).1
 obtain ⟨y,h1,h2⟩:=tX h (Qb hi)
 rw [e] at h1; cases h1
 exact ⟨_,Qb hi,h2⟩
theorem kO:∀ {ds es:List PyData} {xs ys:List V},bP K H ds xs->bP K H es ys->bP K H (ds++es) (xs++ys)
 | [],es,xs,ys,h,h'=>by rw [bY.mp h]; exact h'
 | d::ds,es,xs,ys,h,h'=>by
  obtain ⟨x,r,rfl,h2,h3⟩:=bG.mp h
  exact bG.mpr ⟨x,r++ys,rfl,h2,kO h3 h'⟩
theorem sC:∀ {ds:List PyData} {xs:List V} (n:Nat),bP K H ds xs->bP K H (ds.take n) (xs.take n)
 | _,_,0,_=>by rw [Ym,Ym]; exact bY.mpr rfl
 | [],xs,n+1,h=>by rw [bY.mp h]; exact bY.mpr rfl
 | d::ds,xs,n+1,h=>by
  obtain ⟨x,r,rfl,h2,h3⟩:=bG.mp h
  exact bG.mpr ⟨x,r.take n,rfl,h2,sC n h3⟩
theorem sD:∀ {ds:List PyData} {xs:List V} (n:Nat),bP K H ds xs->bP K H (ds.drop n) (xs.drop n)
 | _,_,0,h=>h
 | [],xs,n+1,h=>by rw [bY.mp h]; exact bY.mpr rfl
 | d::ds,xs,n+1,h=>by
  obtain ⟨x,r,rfl,h2,h3⟩:=bG.mp h
  exact sD n h3
theorem cI:∀ {ns:List Int} {xs:List V},bP K H (ns.map PyData.int) xs↔xs=ns.map V.int
 | [],xs=>bY
 | n::ns,xs=>by
  rw [Qz,bG]
  constructor
  ·rintro ⟨x,r,rfl,h2,h3⟩
   rw [cF.mp h2,cI.mp h3]
   rfl
  ·intro e
   exact ⟨_,_,e,cF.mpr rfl,cI.mpr rfl⟩
theorem cU:Den K H (.tuple (ns.map .int)) v↔∃ a,v=.ref a/\aq K H a (ns.map V.int):=by
 rw [bC]
 constructor
 ·rintro ⟨a,xs,rfl,h1,h2⟩
  rw [cI.mp h2] at h1
  exact ⟨a,rfl,h1⟩
 ·rintro ⟨a,rfl,h⟩
  exact ⟨a,_,rfl,h,cI.mpr rfl⟩
theorem nM:Den K H (.list (ns.map .int)) v↔∃ a,v=.ref a/\au K H a (ns.map V.int):=by
 rw [kW]
 constructor
 ·rintro ⟨a,xs,rfl,h1,h2⟩
  rw [cI.mp h2] at h1
  exact ⟨a,rfl,h1⟩
 ·rintro ⟨a,rfl,h⟩
  exact ⟨a,_,rfl,h,cI.mpr rfl⟩
def mJ:PyData->Kd
 | .none=>.br | .bool _=>.bl | .int _=>.int | .str _=>.str | .list _=>.lst | .tuple _=>.tup | .dict _=>.Q9
theorem Den.kd (h:Den K H d v):Bw K H v (mJ d):=by
 cases d with
 | none=>rw [tW.mp h]; rfl
 | bool b=>rw [tV.mp h]; rfl
 | int i=>rw [cF.mp h]; rfl
 | str x=>rw [sS.mp h]; rfl
 | list ds=>obtain ⟨a,xs,rfl,h1,_⟩:=kW.mp h; exact .inl ⟨rfl,xs,h1⟩
 | tuple ds=>obtain ⟨a,xs,rfl,h1,_⟩:=bC.mp h; exact .inr (.inl ⟨rfl,xs,h1⟩)
 | dict kvs=>obtain ⟨_,a,rfl,h1⟩:=U2.mp h; exact .inr (.inr ⟨rfl,[],h1⟩)
section
variable {σ:St}
mutual
def eO:PyData->Bool
 | .dict _=>false
 | .list ds=>jK ds
 | .tuple ds=>jK ds
 | _=>true
def jK:List PyData->Bool
 | []=>true
 | d::ds=>eO d && jK ds
end
mutual
theorem Den.reads (I:Inv X aa σ H s):∀ (d:PyData) (v:V) (u:Value),eO d=true->Den X.K H d v->bQ v u->∃ as,Reads s.heap u d as
 | .none,v,u,_,h,r=>by rw [tW.mp h] at r; cases r; exact ⟨_,.none⟩
 | .bool b,v,u,_,h,r=>by rw [tV.mp h] at r; cases r; exact ⟨_,.bool b⟩
 | .int i,v,u,_,h,r=>by rw [cF.mp h] at r; obtain ⟨t,rfl⟩:=r; exact ⟨_,.int i t⟩
 | .str x,v,u,_,h,r=>by rw [sS.mp h] at r; obtain ⟨t,rfl⟩:=r; exact ⟨_,.str x t⟩
 | .list ds,v,u,hn,h,r=>by
  obtain ⟨a,xs,rfl,h1,h2⟩:=kW.mp h
  cases r
  obtain ⟨ag,rv,⟨o,n,e,c,_,d⟩,_⟩:=I.list h1
  obtain ⟨as,ra⟩:=bP.reads I ds xs ag (by unfold eO at hn; exact hn) h2 rv
  exact ⟨_,.list e c d (by simpa using ra)⟩
 | .tuple ds,v,u,hn,h,r=>by
  obtain ⟨a,xs,rfl,h1,h2⟩:=bC.mp h
  cases r
  obtain ⟨ag,rv,⟨o,e,c,n,d⟩,_⟩:=I.tuple h1
  obtain ⟨as,ra⟩:=bP.reads I ds xs ag (by unfold eO at hn; exact hn) h2 rv
  exact ⟨_,.tuple e c d (by simpa using ra)⟩
 | .dict kvs,v,u,hn,_,_=>by unfold eO at hn; cases hn
theorem bP.reads (I:Inv X aa σ H s):∀ (ds:List PyData) (xs:List V) (us:List Value),jK ds=true->bP X.K H ds xs->bH xs us->∃ as,ReadsAll s.heap us ds as
 | [],xs,us,_,h,r=>by rw [bY.mp h] at r; cases r; exact ⟨_,.nil⟩
 | d::ds,xs,us,hn,h,r=>by
  obtain ⟨x,rr,rfl,h2,h3⟩:=bG.mp h
  unfold jK at hn
  rw [Jc] at hn
  cases r with
  | cons r1 r2 =>
   obtain ⟨as,ra⟩:=Den.reads I d x _ hn.1 h2 r1
   obtain ⟨bs,rb⟩:=bP.reads I ds rr _ hn.2 h3 r2
   exact ⟨_,.cons ra rb⟩
end
theorem aGX (hu:X.A.units+64 < cLine):fm X (compareOp .Eq) (λx y H Q=>∃ d e,Den X.K H d x/\Den X.K H e y/\eO d=true/\eO e=true/\SeqAt.shaped d=true/\SeqAt.shaped e=true/\Q (.bl (PyData.eqv d e)) H):=by
 intro aa s σ H x y v u Q I rx ry h
 obtain ⟨d,e,hd,he,n1,n2,s1,s2,q⟩:=h
 obtain ⟨as,ra⟩:=Den.reads I d x v n1 hd rx
 obtain ⟨bs,rb⟩:=Den.reads I e y u n2 he ry
 exact eq_dataH ra rb s1 s2 hu ⟨.bl _,H,I,rfl,q⟩
theorem Lu (hu:X.A.units+64 < cLine):fm X (compareOp .NotEq) (λx y H Q=>∃ d e,Den X.K H d x/\Den X.K H e y/\eO d=true/\eO e=true/\SeqAt.shaped d=true/\SeqAt.shaped e=true/\Q (.bl (!PyData.eqv d e)) H):=by
 intro aa s σ H x y v u Q I rx ry h
 obtain ⟨d,e,hd,he,n1,n2,s1,s2,q⟩:=h
 obtain ⟨as,ra⟩:=Den.reads I d x v n1 hd rx
 obtain ⟨bs,rb⟩:=Den.reads I e y u n2 he ry
 exact ne_dataH ra rb s1 s2 hu ⟨.bl _,H,I,rfl,q⟩
theorem aCO:ym X "tuple.count" (λx vs H Q=>∃ (a:Addr) (ns:List Int) (n:Int),x=.ref a/\vs = [.int n]/\aq X.K H a (ns.map V.int)/\Q (.int (ns.count n:Nat)) H):=by
 intro aa s σ H x v vs us Q I rx r h
 obtain ⟨a,ns,n,rfl,rfl,ha,q⟩:=h
 obtain ⟨u,rfl,t,rfl⟩:=iA r
 cases rx
 obtain ⟨ag,rv,⟨⟨cls,dd,data,sl⟩,ho,hc,k,hd⟩,uh⟩:=I.tuple ha
 simp only at hc hd
 subst hc hd
 have hi:IntsAre ag ns:=pB rv
 refine Uq Im ⟨_,ho,rfl⟩ PySem.F.entry_tuple_count (PySem.F.args_tuple_count_2 _ _) (SeqAt.tuple_countAt a ag.toArray k dd sl (.int n t) (isInt n)) ⟨ho,λy hy=>(eq_isInt n t hi y (by simpa using hy)).at _ _,?_⟩
 have e:(ag.toArray.toList.countP (isInt n))=ns.count n:=by
  simp only [Wm]
  clear q r ha rv ho uh
  induction hi with
  | nil=>rfl
  | cons m t' _ ih =>
   rw [List.countP_cons,Xf,ih]
   rfl
 rw [e]
 exact ⟨.int _,H,I.tok _,⟨_,rfl⟩,q⟩
end
theorem aCP {x:Value} (QL:ns.length < 64) (hc:∀ Q':List Value->Shared->Prop,(∀ h' tk vs,(∀ b o,s.heap.get? b=some o->h'.get? b=some o)->IntsAre vs ns->Q' vs { s with heap:=h',toks:=tk })->wpAny (model prog w) A.in1 (collect x) Q' E s) (h:∀ (h1 h':Heap) tk out zk,(∀ b o,s.heap.get? b=some o->h1.get? b=some o)->(∀ b o,h1.get? b=some o->h'.get? b=some o)->h'.PlainList h1.objs.size out->IntsAre out.toList zk->zk.Perm ns->zk.Pairwise (·<=·)->Q (.ref h1.objs.size) { s with heap:=h',toks:=tk }) :
  wpAny (model prog w) A (call (.builtin "sorted") [x]) Q E s:=by
 refine Calls.call_function_entry kind_sorted plain_sorted entry_sorted (args_sorted1 _) ?_
 unfold Builtin.«sorted»
 refine Ra (m:=checkCount "sorted" 1 1 _) (Rc ?_)
 refine Ra (hc _ λh1 tk vs kp hi=>?_)
 have hlen:=hi.length
 refine Ra (wpAny_newList ?_ (by rw [Rf]; omega))
 have uq:(h1.push (seqObj "list" vs.toArray 0)).get? h1.objs.size=some (seqObj "list" vs.toArray 0):=Qj _ rfl
 refine Ra (Rx (Rz slot_list_sort ⟨_,uq,rfl⟩ entry_list_sort (list_sort_tree uq hi (by omega) λout zk a1 a2 a3=>⟨_,rfl,?_⟩) (args_list_sort _)))
 refine Rc ⟨_,rfl,?_⟩
 obtain ⟨e,he⟩:=sortedHeap_at (out:=out) uq
 refine h h1 _ tk out zk kp (λb o q=>?_) ⟨e,he⟩ a1 a2 a3
 rw [sortedHeap_old (Qy (Qo q)) (by rw [size_push']; exact Xi (Qo q))]
 exact Qc _ q
def CY (n:Nat):List Int:=(List.range n).map λ(i:Nat)=>(i:Int)
def tab (L:Bool) (ns:List Nat):SetTable:={ mask:=7,place:=ns.toArray,dummies:=#[],finger:=0,led:=L,moves:=0,plain:=true }
def T? (l:List (Nat×Tok)):Array (Int×Value):=(l.map λp=>((p.1:Int),Value.int (p.1:Int) p.2)).toArray
def SX (L:Bool) (h:Heap) (a:Addr) (l:List (Nat×Tok)):Prop:=∃ o ep,h.get? a=some o/\o.ExactSet/\o.data=.set (T? l) ep (tab L (l.map (·.1)))
section
variable {a:Addr}
end
abbrev Led (w:World):Bool:=!(w.params.followText "set-order")
def two (a b:Nat) (t u:Tok):List (Nat×Tok):=if a=b then [(a,t)] else if a < b then [(a,t),(b,u)] else [(b,u),(a,t)]
section
variable {S:Addr} {l:List (Nat×Tok)}
end
def aIx (w:World) (p:Addr) (a b:Nat):HO:=.ext λh=>∃ t u,SX (Led w) h p (two a b t u)
structure Sub (prog:Program) (w:World) (i l:Addr) (n:Nat) (P:Nat->Value->Prop) (st:Nat->Heap->Prop):Prop where
 keep:∀ k h h',st k h->(∀ b,b=i∨b=l->∀ o,h.get? b=some o->h'.get? b=some o)->st k h'
 obj:∀ k h,st k h->(∃ o,h.get? i=some o/\∀ v,o.data≠.cell v)/\∃ o,h.get? l=some o
 item:∀ (A:Around) k (s:Shared) (Q:Value->Shared->Prop) (E:Value->Shared->Prop),k < n->st k s.heap->(∀ v h',P k v->st (k+1) h'->Heap.SameBut i s.heap h'->Q v { s with heap:=h' })->wpAny (model prog w) A (Builtin.SmallTypes.nextOf (.ref i)) Q E s
 done:∀ (A:Around) (s:Shared) (Q:Value->Shared->Prop) (E:Value->Shared->Prop),A.handled=none->st n s.heap->(∀ h' e,Heap.ExtBut i s.heap h'->(∃ o,h'.get? e=some o/\o.cls=.type "StopIteration")->E (.ref e) { s with heap:=h' }) ->
  wpAny (model prog w) A (Builtin.SmallTypes.nextOf (.ref i)) Q E s
theorem aDD (prog:Program) (w:World) (i l:Addr) (items:Array Value) (ff:l≠i):Sub prog w i l items.size (λk v=>items[k]?=some v) (λk h=>h.IsListIter i l k/\h.IsList l items) where
 keep:=λk h h' st kp=>⟨st.1.at λo e=>kp i (.inl rfl) o e,st.2.at λo e=>kp l (.inr rfl) o e⟩
 obj:=λk h st=>by
  obtain ⟨⟨o,e,_,d⟩,⟨o2,e2,_⟩⟩:=st
  exact ⟨⟨o,e,λv z=>by rw [d] at z; cases z⟩,o2,e2⟩
 item:=λA k s Q E hk st hQ=>wpAny_nextOf_list_item st.1 st.2 (Array.getElem?_eq_getElem hk) λh' a b=>hQ _ h' (Array.getElem?_eq_getElem hk) ⟨a,st.2.at λo e=>b.extBut l o ff e⟩ b
 done:=λA s Q E hh st hE=>wpAny_nextOf_list_end hh st.1 st.2 (Array.getElem?_eq_none (Qh _)) hE
theorem pZ {x:Value} (hit:s.heap.IsTupleIter it t i) (ht:s.heap.IsTuple t items) (hx:items[i]?=some x) (hQ:∀ h',h'.IsTupleIter it t (i+1)->Heap.SameBut it s.heap h'->Q x { s with heap:=h' }):wpAny (model prog w) A (Builtin.SmallTypes.nextOf (.ref it)) Q E s:=by
 obtain ⟨o,ho,hc,hd⟩:=id hit
 obtain ⟨ol,JJ,_,nl,jz⟩:=ht
 have hT:=hit.typeIs
 unfold Builtin.SmallTypes.nextOf
 refine Ra (Rn (name:=Str.ofString "__next__") hT Tn (Rz Tn hT Vl ?_ (Vj _)))
 refine Ra (m:=field (.ref it) 0) (Rk ho hd (x:=.ref t) rfl ?_)
 have gx:¬ ((Value.ref t==Value.none)=true):=Qu
 show wpAny _ _ (if (Value.ref t==Value.none)=true then _ else _) _ _ s
 rw [if_neg gx]
 refine Ra (m:=field (.ref it) 1) (Rk ho hd (x:=.int i 0) rfl ?_)
 refine Ra (m:=seqItems? (.ref t)) (Tf JJ jz ?_)
 simp only [Yq,hx]
 refine Ra (wpAny_setField ho hd (by simp) (Rc ⟨x,rfl,Rc (hQ _ ?_ (Heap.SameBut.update ..))⟩))
 refine ⟨_,Za _ ho (Obj.isFreed_of_fields (Obj.data_mapFields hd _)),(Obj.cls_mapFields ..).trans hc,?_⟩
 rw [Obj.data_mapFields hd]
 simp [rawInt]
theorem rD (hh:A.handled=none) (hit:s.heap.IsTupleIter it t i) (ht:s.heap.IsTuple t items) (hx:items[i]?=none) (hE:∀ h' e,Heap.ExtBut it s.heap h'->(∃ o,h'.get? e=some o/\o.cls=.type "StopIteration")->E (.ref e) { s with heap:=h' }):wpAny (model prog w) A (Builtin.SmallTypes.nextOf (.ref it)) Q E s:=by
 obtain ⟨o,ho,hc,hd⟩:=id hit
 obtain ⟨ol,JJ,_,nl,jz⟩:=ht
 have hT:=hit.typeIs
 unfold Builtin.SmallTypes.nextOf
 refine Ra (Rn (name:=Str.ofString "__next__") hT Tn (Rz Tn hT Vl ?_ (Vj _)))
 refine Ra (m:=field (.ref it) 0) (Rk ho hd (x:=.ref t) rfl ?_)
 have gx:¬ ((Value.ref t==Value.none)=true):=Qu
 show wpAny _ _ (if (Value.ref t==Value.none)=true then _ else _) _ _ s
 rw [if_neg gx]
 refine Ra (m:=field (.ref it) 1) (Rk ho hd (x:=.int i 0) rfl ?_)
 refine Ra (m:=seqItems? (.ref t)) (Tf JJ jz ?_)
 simp only [Yq,hx]
 refine Ra (Ih (Ra (wpAny_setField ho hd (by simp) ?_)))
 refine Ra (m:=newExc (.type "StopIteration") []) ?_
 simp only [newExc,newTuple]
 refine Ra (Rq ?_ (by size_fits))
 refine Ra (m:=firstArgMember _ _) (wpAny_of_eq (a:=Value.none) (by first | rfl | (simp only [firstArgMember]; rfl)) ?_)
 refine Rq ?_ (by size_fits)
 simp only [raiseNew]
 refine Ra (wpAny_handled ?_)
 first | rw [show A.in1.handled=none from hh] | rw [hh]
 refine Ra (Rc (wpAny_throw ?_))
 exact hE _ _ (((Heap.SameBut.update ..).extBut.push _).push _) ⟨_,Qj _ rfl,rfl⟩
theorem aCR (prog:Program) (w:World) (i l:Addr) (items:Array Value) (ff:l≠i):Sub prog w i l items.size (λk v=>items[k]?=some v) (λk h=>h.IsTupleIter i l k/\h.IsTuple l items) where
 keep:=λk h h' st kp=>⟨st.1.at λo e=>kp i (.inl rfl) o e,by obtain ⟨o,e,r⟩:=st.2; exact ⟨o,kp l (.inr rfl) o e,r⟩⟩
 obj:=λk h st=>by
  obtain ⟨⟨o,e,_,d⟩,⟨o2,e2,_⟩⟩:=st
  exact ⟨⟨o,e,λv z=>by rw [d] at z; cases z⟩,o2,e2⟩
 item:=λA k s Q E hk st hQ=>pZ st.1 st.2 (Array.getElem?_eq_getElem hk) λh' a b=>hQ _ h' (Array.getElem?_eq_getElem hk) ⟨a,by obtain ⟨o,e,r⟩:=st.2; exact ⟨o,b.extBut l o ff e,r⟩⟩ b
 done:=λA s Q E hh st hE=>rD hh st.1 st.2 (Array.getElem?_eq_none (Qh _)) hE
abbrev iC (h:Heap) (z TI TO:Addr) (f0:Value) (f1:Bool):Prop :=
 h.get? z=some { cls:=.type "zip",dict:=none,data:=.fields #[f0,.bool f1,.bool false,.ref TI,.ref TO],slots:=#[] }
def F0 (f:Value):Prop:=f=.none∨∃ a t,f=.int a t
theorem aAm {a:Addr} {Q:Option Obj->Shared->Prop} (h:Q (s.heap.get? a) s):wpAny M A (loadIfAlive a) Q E s:=λΓ p _=>by
 show Sem.wp M Γ (.loadIfAlive a .pure) _ _ p s
 rw [Sem.wp_loadIfAlive]
 exact (Sem.wp_pure ..).mpr h
section
variable {z TI TO i1:Addr} {n1:Nat}
theorem S8 {Q:Bool->Shared->Prop} (hz:iC s.heap z TI TO f0 f1) (hf:F0 f0) (h1:Q true s) (h2:∀ h' b,f0≠.none->iC h' z TI TO f0 b->Heap.SameBut z s.heap h'->Q false { s with heap:=h' }) :
  wpAny (model prog w) A (Builtin.SmallTypes.ownedTupleIsFree (.ref z)) Q E s:=by
 unfold Builtin.SmallTypes.ownedTupleIsFree
 rcases hf with rfl | ⟨a,t,rfl⟩
 ·exact Ra (Rk hz rfl (x:=.none) rfl (Rc h1))
 ·refine Ra (Rk hz rfl (x:=.int a t) rfl ?_)
  show wpAny (model prog w) A (loadIfAlive a.toNat >>= _) Q E s
  refine Ra (aAm ?_)
  cases hq:s.heap.get? a.toNat with
  | none=>exact Rc h1
  | some o =>
   show wpAny (model prog w) A (field (.ref z) 1 >>= _) Q E s
   refine Ra (Rk hz rfl (x:=.bool f1) rfl ?_)
   cases f1 with
   | true=>exact Rc (h2 s.heap true (by simp) hz (Heap.SameBut.refl _ _))
   | false =>
    show wpAny (model prog w) A (setField (.ref z) 1 (.bool true) >>= _) Q E s
    refine Ra (Ry hz (by simp) λg hg b=>Rc (h2 g true (by simp) hg b))
theorem U1 {k:Nat} {a b:Value} (D:ZipApart z TI TO i1 i2 l1 l2) (S1:Sub prog w i1 l1 n1 P1 kh) (S2:Sub prog w i2 l2 n2 P2 gv) (hz:iC s.heap z TI TO f0 f1) (hf:F0 f0) (ja:IsPair s.heap TI (.ref i1) (.ref i2)) (jh:IsPair s.heap TO a b) (h1:kh k s.heap) (h2:gv k s.heap) (k1:k < n1) (k2:k < n2) (hQ:∀ h' x y Gz Ky,(f0=.none->Gz=rawInt s.heap.objs.size/\Ky=false)->P1 k x->P2 k y->F0 Gz->iC h' z TI TO Gz Ky->(∃ a b,IsPair h' TO a b)->kh (k+1) h'->gv (k+1) h'->IsPair h' s.heap.objs.size x y->h'.objs.size=s.heap.objs.size+1 ->
   (∀ c o,c≠z->c≠TO->c≠i1->c≠i2->s.heap.get? c=some o->h'.get? c=some o)->Q (.ref s.heap.objs.size) { s with heap:=h' }) :
  wpAny (model prog w) A (Builtin.«zip.__next__» ⟨[.ref z],[]⟩) (λfin s'=>∃ v,fin=.done (.ret v)/\Q v s') E s:=by
 refine Ra (m:=field (.ref z) 2) (Rk hz rfl (x:=.bool false) rfl ?_)
 refine Ra (m:=field (.ref z) 3) (Rk hz rfl (x:=.ref TI) rfl ?_)
 refine Ra (Tf ja rfl ?_)
 refine Ra (m:=Builtin.SmallTypes.ownedTupleIsFree (.ref z)) (S8 hz hf ?_ λh0 fb nf Oz b0=>?_)
 ·simp only [if_true]
  refine Ra (Ih ?_)
  refine Ra (Rk hz rfl (x:=.ref TO) rfl ?_)
  refine Ra (Ry hz (by simp) λg1 IW b1=>?_)
  have yq:iC g1 z TI TO .ellipsis f1:=IW
  refine Ra ?_
  simp only [List.zipIdx_cons,List.zipIdx_nil,Zl,Zs]
  have s1:kh k g1:=S1.keep _ _ _ h1 λc hc o e=>b1.extBut c o (by rcases hc with r | r <;> rw [r]; exact D.i1z; exact D.l1z) e
  refine Ra (Ra (Vx ?_))
  refine Ra (m:=Builtin.SmallTypes.nextOf (.ref i1)) (S1.item _ k _ _ _ k1 s1 λx g2 px t1 b2=>Rc ?_)
  have o2:IsPair g2 TO a b:=b2.extBut _ _ D.TOi1 (b1.extBut _ _ D.TOz jh)
  refine Ra (Tf o2 rfl ?_)
  refine Ra (Vo o2 λg3 o3 b3=>?_)
  have X7:IsPair g3 TO x b:=o3
  refine Ra (Uj (Rc ?_))
  have s2:gv k g3:=S2.keep _ _ _ h2 λc hc o e=>by
   rcases hc with r | r
   ·rw [r] at e ⊢; exact b3.extBut _ _ D.TOi2.symm (b2.extBut _ _ D.i12.symm (b1.extBut _ _ D.i2z e))
   ·rw [r] at e ⊢; exact b3.extBut _ _ D.l2TO (b2.extBut _ _ D.l2i1 (b1.extBut _ _ D.l2z e))
  refine Ra (Ra (Vx ?_))
  refine Ra (m:=Builtin.SmallTypes.nextOf (.ref i2)) (S2.item _ k _ _ _ k2 s2 λy g4 py t2 b4=>Rc ?_)
  have o4:IsPair g4 TO x b:=b4.extBut _ _ D.TOi2 X7
  refine Ra (Tf o4 rfl ?_)
  refine Ra (Vo o4 λg5 o5 b5=>?_)
  have Of:IsPair g5 TO x y:=o5
  refine Ra (Uj (Rc (Rc ?_)))
  refine Ra (Tf Of rfl ?_)
  refine Ra (Mg ?_)
  have sz:g5.objs.size=s.heap.objs.size:=by rw [b5.1,b4.1,b3.1,b2.1,b1.1]
  have z5:iC g5 z TI TO .ellipsis f1:=b5.extBut _ _ D.TOz.symm (b4.extBut _ _ D.i2z.symm (b3.extBut _ _ D.TOz.symm (b2.extBut _ _ D.i1z.symm yq)))
  have Y0:∀ c o,c≠z->c≠TO->c≠i1->c≠i2->s.heap.get? c=some o->g5.get? c=some o:=λc o c1 c2 c3 c4 e =>
   b5.extBut _ _ c2 (b4.extBut _ _ c4 (b3.extBut _ _ c2 (b2.extBut _ _ c3 (b1.extBut _ _ c1 e))))
  have HF:kh (k+1) g5:=S1.keep _ _ _ t1 λc hc o e=>by
   rcases hc with r | r
   ·rw [r] at e ⊢; exact b5.extBut _ _ D.TOi1.symm (b4.extBut _ _ D.i12 (b3.extBut _ _ D.TOi1.symm e))
   ·rw [r] at e ⊢; exact b5.extBut _ _ D.l1TO (b4.extBut _ _ D.l1i2 (b3.extBut _ _ D.l1TO e))
  have XO:gv (k+1) g5:=S2.keep _ _ _ t2 λc hc o e=>by
   rcases hc with r | r
   ·rw [r] at e ⊢; exact b5.extBut _ _ D.TOi2.symm e
   ·rw [r] at e ⊢; exact b5.extBut _ _ D.l2TO e
  have NA:g5.objs.size≠z:=Zj (Qo z5)
  refine Ra (m:=Builtin.SmallTypes.ownedTupleHandOut (.ref z) (.ref g5.objs.size)) ?_
  unfold Builtin.SmallTypes.ownedTupleHandOut
  have z6:iC (g5.push { cls:=.type "tuple",data:=.seq #[x,y] }) z TI TO .ellipsis f1:=Qc _ z5
  refine Ra (Ry z6 (by simp) λg7 z7 b7=>?_)
  have WG:iC g7 z TI TO (rawInt g5.objs.size) f1:=z7
  refine Ry WG (by simp) λg8 z8 b8=>?_
  have NC:iC g8 z TI TO (rawInt g5.objs.size) false:=z8
  have up:∀ c o,c≠z->g5.get? c=some o->g8.get? c=some o:=λc o c1 e=>b8.extBut _ _ c1 (b7.extBut _ _ c1 (Qc _ e))
  have T8:IsPair g8 g5.objs.size x y:=b8.extBut _ _ NA (b7.extBut _ _ NA (Qj _ rfl))
  have XQ:g8.objs.size=s.heap.objs.size+1:=by rw [b8.1,b7.1,Jm,sz]
  rw [sz] at NC T8
  refine Rc ⟨_,rfl,?_⟩
  show Q (.ref g5.objs.size) _
  rw [sz]
  refine hQ g8 x y _ _ (λ_=>⟨rfl,rfl⟩) px py (.inr ⟨_,_,rfl⟩) NC ⟨_,_,up _ _ D.TOz Of⟩ (S1.keep _ _ _ HF λc hc o e=>up c o (by rcases hc with r | r <;> rw [r]; exact D.i1z; exact D.l1z) e) (S2.keep _ _ _ XO λc hc o e=>up c o (by rcases hc with r | r <;> rw [r]; exact D.i2z; exact D.l2z) e) T8 XQ λc o c1 c2 c3 c4 e=>up c o c1 (Y0 c o c1 c2 c3 c4 e)
 ·simp only [Zm,if_false]
  have s1:kh k h0:=S1.keep _ _ _ h1 λc hc o e=>b0.extBut c o (by rcases hc with r | r <;> rw [r]; exact D.i1z; exact D.l1z) e
  rw [<- Array.forIn_toList]
  simp only [Zl,Zs]
  refine Ra (Ra (Ra (Rx ?_)))
  refine Ra (m:=Builtin.SmallTypes.nextOf (.ref i1)) (S1.item _ k _ _ _ k1 s1 λx g2 px t1 b2=>Rc ?_)
  refine Rc ?_
  have s2:gv k g2:=S2.keep _ _ _ h2 λc hc o e=>by
   rcases hc with r | r
   ·rw [r] at e ⊢; exact b2.extBut _ _ D.i12.symm (b0.extBut _ _ D.i2z e)
   ·rw [r] at e ⊢; exact b2.extBut _ _ D.l2i1 (b0.extBut _ _ D.l2z e)
  refine Ra (Ra (Rx ?_))
  refine Ra (m:=Builtin.SmallTypes.nextOf (.ref i2)) (S2.item _ k _ _ _ k2 s2 λy g4 py t2 b4=>Rc ?_)
  refine Rc (Rc ?_)
  refine Ra (Mg ?_ (by show 2<=sizeLine; rw [Rf]; decide))
  have sz:g4.objs.size=s.heap.objs.size:=by rw [b4.1,b2.1,b0.1]
  have z4:iC g4 z TI TO f0 fb:=b4.extBut _ _ D.i2z.symm (b2.extBut _ _ D.i1z.symm Oz)
  have Oy:∀ c o,c≠z->c≠i1->c≠i2->s.heap.get? c=some o->g4.get? c=some o:=λc o c1 c3 c4 e=>b4.extBut _ _ c4 (b2.extBut _ _ c3 (b0.extBut _ _ c1 e))
  have HF:kh (k+1) g4:=S1.keep _ _ _ t1 λc hc o e=>by
   rcases hc with r | r
   ·rw [r] at e ⊢; exact b4.extBut _ _ D.i12 e
   ·rw [r] at e ⊢; exact b4.extBut _ _ D.l1i2 e
  refine Rc ⟨_,rfl,?_⟩
  show Q (.ref g4.objs.size) _
  have T8:IsPair (g4.push { cls:=.type "tuple",data:=.seq #[x,y] }) g4.objs.size x y:=Qj _ rfl
  rw [sz] at T8 ⊢
  refine hQ _ x y _ _ (λq=>absurd q nf) px py hf (Qc _ z4) ⟨_,_,Qc _ (Oy _ _ D.TOz D.TOi1 D.TOi2 jh)⟩ (S1.keep _ _ _ HF λc hc o e=>Qc _ e) (S2.keep _ _ _ t2 λc hc o e=>Qc _ e) T8 (by rw [Jm,sz]) λc o c1 c2 c3 c4 e=>Qc _ (Oy c o c1 c3 c4 e)
theorem US {k:Nat} {a b:Value} {Q:Fin->Shared->Prop} (hh:A.handled=none) (D:ZipApart z TI TO i1 i2 l1 l2) (S1:Sub prog w i1 l1 n1 P1 kh) (S2:Sub prog w i2 l2 n2 P2 gv) (hz:iC s.heap z TI TO f0 f1) (hf:F0 f0) (ja:IsPair s.heap TI (.ref i1) (.ref i2)) (jh:IsPair s.heap TO a b) (h1:kh k s.heap) (h2:gv k s.heap) (my:k=n1/\k<=n2∨k=n2/\k < n1) (hE:∀ h' e,(∀ c o,c≠z->c≠TO->c≠i1->c≠i2->s.heap.get? c=some o->h'.get? c=some o)->(∃ o,h'.get? e=some o/\o.cls=.type "StopIteration")->E (.ref e) { s with heap:=h' }) :
  wpAny (model prog w) A (Builtin.«zip.__next__» ⟨[.ref z],[]⟩) Q E s:=by
 refine Ra (m:=field (.ref z) 2) (Rk hz rfl (x:=.bool false) rfl ?_)
 refine Ra (m:=field (.ref z) 3) (Rk hz rfl (x:=.ref TI) rfl ?_)
 refine Ra (Tf ja rfl ?_)
 refine Ra (m:=Builtin.SmallTypes.ownedTupleIsFree (.ref z)) (S8 hz hf ?_ λh0 fb nf Oz b0=>?_)
 ·simp only [if_true]
  refine Ra (Ih ?_)
  refine Ra (Rk hz rfl (x:=.ref TO) rfl ?_)
  refine Ra (Ry hz (by simp) λg1 IW b1=>?_)
  have yq:iC g1 z TI TO .ellipsis f1:=IW
  refine Ra ?_
  simp only [List.zipIdx_cons,List.zipIdx_nil,Zl,Zs]
  have s1:kh k g1:=S1.keep _ _ _ h1 λc hc o e=>b1.extBut c o (by rcases hc with r | r <;> rw [r]; exact D.i1z; exact D.l1z) e
  refine Ra (Ra (Vx ?_))
  have fin:∀ (g:Heap) (e:Addr) (g0:Heap),(∃ o,g.get? e=some o/\o.cls=.type "StopIteration")->iC g z TI TO .ellipsis f1->(∀ c o,c≠z->c≠TO->c≠i1->c≠i2->s.heap.get? c=some o->g.get? c=some o) ->
    wpAny (model prog w) A (setField (.ref z) 0 .none) (λ_ s'=>E (.ref e) s') E { s with heap:=g }:=λg e g0 ⟨oe,A0,CG⟩ uh kp=>by
   have ρ:e≠z:=λq=>by rw [q,uh] at A0; cases A0; simp at CG
   exact Ry uh (by simp) λg' _ b'=>hE g' e (λc o c1 c2 c3 c4 q=>b'.extBut _ _ c1 (kp c o c1 c2 c3 c4 q)) ⟨oe,b'.extBut _ _ ρ A0,CG⟩
  rcases my with ⟨e1,_⟩ | ⟨e2,k1⟩
  ·rw [e1] at s1
   refine Ra (m:=Builtin.SmallTypes.nextOf (.ref i1)) (S1.done _ _ _ _ hh s1 λg2 e b2 he=>?_)
   exact fin g2 e g1 he (b2 _ _ D.i1z.symm yq) λc o c1 _ c3 _ q=>b2 _ _ c3 (b1.extBut _ _ c1 q)
  ·refine Ra (m:=Builtin.SmallTypes.nextOf (.ref i1)) (S1.item _ k _ _ _ k1 s1 λx g2 px t1 b2=>Rc ?_)
   have o2:IsPair g2 TO a b:=b2.extBut _ _ D.TOi1 (b1.extBut _ _ D.TOz jh)
   refine Ra (Tf o2 rfl ?_)
   refine Ra (Vo o2 λg3 o3 b3=>?_)
   refine Ra (Uj (Rc ?_))
   have s2:gv n2 g3:=by
    rw [<- e2]
    exact S2.keep _ _ _ h2 λc hc o e=>by
     rcases hc with r | r
     ·rw [r] at e ⊢; exact b3.extBut _ _ D.TOi2.symm (b2.extBut _ _ D.i12.symm (b1.extBut _ _ D.i2z e))
     ·rw [r] at e ⊢; exact b3.extBut _ _ D.l2TO (b2.extBut _ _ D.l2i1 (b1.extBut _ _ D.l2z e))
   refine Ra (Ra (Vx ?_))
   refine Ra (m:=Builtin.SmallTypes.nextOf (.ref i2)) (S2.done _ _ _ _ hh s2 λg4 e b4 he=>?_)
   exact fin g4 e g3 he (b4 _ _ D.i2z.symm (b3.extBut _ _ D.TOz.symm (b2.extBut _ _ D.i1z.symm yq))) λc o c1 c2 c3 c4 q=>b4 _ _ c4 (b3.extBut _ _ c2 (b2.extBut _ _ c3 (b1.extBut _ _ c1 q)))
 ·simp only [Zm,if_false]
  have s1:kh k h0:=S1.keep _ _ _ h1 λc hc o e=>b0.extBut c o (by rcases hc with r | r <;> rw [r]; exact D.i1z; exact D.l1z) e
  rw [<- Array.forIn_toList]
  simp only [Zl,Zs]
  refine Ra (Ra (Ra (Rx ?_)))
  rcases my with ⟨e1,_⟩ | ⟨e2,k1⟩
  ·rw [e1] at s1
   refine Ra (m:=Builtin.SmallTypes.nextOf (.ref i1)) (S1.done _ _ _ _ hh s1 λg2 e b2 he=>?_)
   exact hE g2 e (λc o c1 _ c3 _ q=>b2 _ _ c3 (b0.extBut _ _ c1 q)) he
  ·refine Ra (m:=Builtin.SmallTypes.nextOf (.ref i1)) (S1.item _ k _ _ _ k1 s1 λx g2 px t1 b2=>Rc ?_)
   refine Rc ?_
   have s2:gv n2 g2:=by
    rw [<- e2]
    exact S2.keep _ _ _ h2 λc hc o e=>by
     rcases hc with r | r
     ·rw [r] at e ⊢; exact b2.extBut _ _ D.i12.symm (b0.extBut _ _ D.i2z e)
     ·rw [r] at e ⊢; exact b2.extBut _ _ D.l2i1 (b0.extBut _ _ D.l2z e)
   refine Ra (Ra (Rx ?_))
   refine Ra (m:=Builtin.SmallTypes.nextOf (.ref i2)) (S2.done _ _ _ _ hh s2 λg4 e b4 he=>?_)
   exact hE g4 e (λc o c1 c2 c3 c4 q=>b4 _ _ c4 (b2.extBut _ _ c3 (b0.extBut _ _ c1 q))) he
end
inductive Sk where
 | l | t
def jc (k:Sk) (K:Rb) (H:Hp) (a:Addr) (xs:List V):Prop:=match k with | .l=>au K H a xs | .t=>aq K H a xs
def u7 (k:Sk) (h:Heap) (a:Addr) (ag:Array Value):Prop:=match k with | .l=>h.IsList a ag | .t=>h.IsTuple a ag
def kc (k:Sk) (h:Heap) (i a:Addr) (n:Nat):Prop:=match k with | .l=>h.IsListIter i a n | .t=>h.IsTupleIter i a n
def Dp (k:Sk) (a:Addr):Obj:=match k with | .l=>{ cls:=.type "list_iterator",data:=.fields #[.ref a,.int 0 0] } | .t=>{ cls:=.type "tuple_iterator",data:=.fields #[.ref a,.int 0 0] }
theorem kc.new (k:Sk) (h:Heap) (a:Addr):kc k (h.push (Dp k a)) h.objs.size a 0:=by
 cases k
 ·exact ⟨_,Qj _ rfl,rfl,rfl⟩
 ·exact ⟨_,Qj _ rfl,rfl,rfl⟩
theorem kc.obj {k:Sk} {i a:Addr} (x:kc k h i a n):∃ o,h.get? i=some o/\∀ v,o.data≠.cell v:=by
 cases k
 ·obtain ⟨o,e,_,d⟩:=x; exact ⟨o,e,λv z=>by rw [d] at z; cases z⟩
 ·obtain ⟨o,e,_,d⟩:=x; exact ⟨o,e,λv z=>by rw [d] at z; cases z⟩
theorem kc.at {k:Sk} {i a:Addr} (x:kc k h i a n) (kp:∀ o,h.get? i=some o->h'.get? i=some o):kc k h' i a n:=by
 cases k
 ·exact Heap.IsListIter.at x kp
 ·exact Heap.IsTupleIter.at x kp
theorem u7.at {k:Sk} {a:Addr} {ag:Array Value} (x:u7 k h a ag) (kp:∀ o,h.get? a=some o->h'.get? a=some o):u7 k h' a ag:=by
 cases k
 ·exact Heap.IsList.at x kp
 ·obtain ⟨o,e,r⟩:=x; exact ⟨o,kp o e,r⟩
theorem Ag (k:Sk) (prog:Program) (w:World) (i l:Addr) (items:Array Value) (ff:l≠i):Sub prog w i l items.size (λj v=>items[j]?=some v) (λj h=>kc k h i l j/\u7 k h l items):=by
 cases k
 ·exact aDD prog w i l items ff
 ·exact aCR prog w i l items ff
theorem Su {k:Sk} {a:Addr} {ag:Array Value} (h:u7 k s.heap a ag) (hQ:Q (.ref s.heap.objs.size) { s with heap:=s.heap.push (Dp k a) }):wpAny (model prog w) A (pyIter (.ref a)) Q E s:=by
 cases k
 ·exact Uk h hQ
 ·exact Ie h hQ
section
variable {σ:St}
theorem Inv.i6 (I:Inv X aa σ H s) {k:Sk} {a:Addr} (h:jc k X.K H a xs):∃ ag:List Value,bH xs ag/\u7 k s.heap a ag.toArray:=by
 cases k
 ·obtain ⟨ag,r,p,_⟩:=I.list h; exact ⟨ag,r,p.isList⟩
 ·obtain ⟨ag,r,p,_⟩:=I.tuple h; exact ⟨ag,r,p⟩
theorem Inv.ib (I:Inv X aa σ H s) {k:Sk} {a:Addr} (h:jc k X.K H a xs) (h':jc k X.K H a ys):xs=ys:=by
 cases k
 ·exact I.ny h h'
 ·exact I.kg h h'
theorem Inv.gb (I:Inv X aa σ H s) {k:Sk} {a b:Addr} (h:jc k X.K H a xs) (f:sM X aa H b):a≠b:=by
 have rd:∀ {u:HO},Rd H a u->a≠b:=λ{u} r z=>by
  rcases r with r | ⟨o,r⟩ <;> (rw [z,f.1] at r; cases r)
 have kk:∀ {o:Obj},X.K.lookup a=some o->a≠b:=λ{o} e z=>by
  have e1:=I.ok.mod.xr a o e
  rcases f.2.2.2.1 with q | q
  ·exact I.ok.kn a o e1 (z ▸ q)
  ·exact Jl _ (Qq (Qo (I.ok.bs a o e1).1) (z ▸ q))
 cases k
 ·rcases h with h | ⟨o,_,_,e,_⟩
  ·exact rd h
  ·exact kk e
 ·rcases h with h | ⟨o,_,_,e,_⟩
  ·exact rd h
  ·exact kk e
theorem Inv.je (ch:List Addr) (I:Inv X aa σ H s) (k:∀ b o,b∉ch->s.heap.get? b=some o->h'.get? b=some o) (f:∀ b∈ch,sM X aa H b):Inv X aa σ H { s with heap:=h',toks:=t' }:=by
 have Di:∀ b u,H b=some u->b∉ch:=λb u e z=>by rw [(f b z).1] at e; cases e
 have nL:X.env.locals∉ch:=λz=>(f _ z).2.1 rfl
 refine I.step (g':=s.gens) (d':=s.drawn) (ch:=ch) (λb hb=>⟨(f b hb).2.2.2.1,(f b hb).2.1,(f b hb).2.2.2.2.1,(f b hb).2.2.2.2.2⟩) (λb o _ _ hc e _=>k b o hc e) (λb o _ _ hc e _=>⟨o.slots,k b o hc e⟩) (λ_ _ _ _ n=>n)
  (λb o hc e=>⟨o,k b o hc e⟩) (λ_ _ e=>e) (λ_ _ _ e=>e) (λb ps e=>⟨#[],by rw [e]; simp⟩) (λm hm=>?_) (λb u e=>?_) I.bare
 ·obtain ⟨o,es,ep,ho,r⟩:=hm
  exact ⟨o,es,ep,k _ o nL ho,r⟩
 ·refine (I.ax b u e).d_ (λc v hc q=>k c v ?_ q) (λ_ q=>q) λ_ _ q=>q
  rcases hc with z | z
  ·rw [z]; exact Di b u e
  ·exact Di c _ z
theorem Inv.pj {D:Addr} {u:HO} (I:Inv X aa σ H s) (new:bR X.prog X.w (upd H D u) s.heap D u) (hn:H D=none) (hL:D≠X.env.locals)
  (h1:X.gq.heap.objs.size<=D) (h2:∀ x c,X.env.cells.lookup x=some c->c≠D) (h3:∀ p∈X.pn++aa,p.1≠D):Inv X aa σ (upd H D u) s:=by
 have ne:∀ b v,H b=some v->b≠D:=λb v e z=>by rw [z,hn] at e; cases e
 refine I.step (g':=s.gens) (d':=s.drawn) (t':=s.toks) (h':=s.heap) (ch:=[D]) (λb hb=>?_) (λb o _ _ _ e _=>e) (λb o _ _ _ e _=>⟨o.slots,e⟩) (λb o hc _ n=>?_) (λb o _ e=>⟨o,e⟩)
  (λb xs e=>by rw [aF (ne b _ e)]; exact e) (λb o v e=>by rw [aF (ne b _ e)]; exact e) (λb ps e=>⟨#[],by rw [aF (ne b _ e),e]; simp⟩) (λ_ h=>h) (λb v e=>?_) I.bare
 ·have e:b=D:=by simpa using hb
  subst e
  exact ⟨.inr h1,hL,h2,h3⟩
 ·rw [aF (by simpa using hc)]; exact n
 ·by_cases hb:b=D
  ·subst hb
   rw [aB] at e; cases e
   exact new
  ·rw [aF hb] at e
   exact (I.ax b v e).d_ (λc v _ q=>q) (λc q=>by rw [aF (ne c _ q)]; exact q) λc xs q=>by rw [aF (ne c _ q)]; exact q
end
def L5 (K:Rb) (k1 k2:Sk) (a b:Addr):It :=
 ⟨λi H => ∃ xs ys x y, jc k1 K H a xs /\ jc k2 K H b ys /\ xs[i]? = some x /\ ys[i]? = some y,
  λi H v H'=>∃ p,H p=none/\v=.ref p/\∀ xs ys,jc k1 K H a xs->jc k2 K H b ys->∃ x y,xs[i]?=some x/\ys[i]?=some y/\H'=upd H p (.tup [x,y]),
  λi H=>∃ xs ys,jc k1 K H a xs/\jc k2 K H b ys/\min xs.length ys.length=i⟩
theorem aDF {x1} (k1 k2:Sk) (a b z TI TO i1 i2:Addr) (D:∀ l1 l2:Addr,(∀ c∈[z,TI,TO,i1,i2],l1≠c)->(∀ c∈[z,TI,TO,i1,i2],l2≠c)->ZipApart z TI TO i1 i2 l1 l2) :
  Turn P w K (.Tuple es x1 pos) (L5 K k1 k2 a b) [z,TI,TO,i1,i2] z (λi h=>IsZip h z TI TO .none/\IsPair h TI (.ref i1) (.ref i2)/\(∃ x y,IsPair h TO x y)/\kc k1 h i1 a i/\kc k2 h i2 b i) where
 mem:=by simp
 obj:=λi h st c hc=>by
  obtain ⟨hz,ja,⟨x,y,jh⟩,h1,h2⟩:=st
  simp only [Ql,Qt,or_false] at hc
  rcases hc with rfl | rfl | rfl | rfl | rfl
  ·exact ⟨_,hz,λv q=>by cases q⟩
  ·exact ⟨_,ja,λv q=>by cases q⟩
  ·exact ⟨_,jh,λv q=>by cases q⟩
  ·exact h1.obj
  ·exact h2.obj
 keep:=λi h h' st k=>by
  obtain ⟨hz,ja,⟨x,y,jh⟩,h1,h2⟩:=st
  exact ⟨k z (by simp) _ hz,k TI (by simp) _ ja,⟨x,y,k TO (by simp) _ jh⟩,h1.at λo e=>k i1 (by simp) o e,h2.at λo e=>k i2 (by simp) o e⟩
 item:=by
  intro X hP hw hK hc i aa s σ H E I hf st hg
  subst hP hw hK
  obtain ⟨hz,ja,⟨x0,y0,jh⟩,h1,h2⟩:=st
  obtain ⟨xs,ys,x,y,ha,hb,hx,hy⟩:=hg
  obtain ⟨ag,rv,pa⟩:=I.i6 ha
  obtain ⟨om,fu,pb⟩:=I.i6 hb
  obtain ⟨u,hu,ru⟩:=rv.get hx
  obtain ⟨v,hv,AJ⟩:=fu.get hy
  have na:∀ c∈[z,TI,TO,i1,i2],a≠c:=λc bz=>I.gb ha (hf c bz)
  have nb:∀ c∈[z,TI,TO,i1,i2],b≠c:=λc bz=>I.gb hb (hf c bz)
  have DD:=D a b na nb
  have hT:s.TypeIs (.ref z) "zip" := ⟨_,hz,rfl⟩
  have A9:i < ag.toArray.size:=by rw [Qm]; exact (Qa.mp hu).1
  have JQ:i < om.toArray.size:=by rw [Qm]; exact (Qa.mp hv).1
  unfold pyNext
  refine Ra (Vy (Rn (name:=Str.ofString "__next__") hT Tb (Rz Tb hT Ud
   (U1 DD (Ag k1 X.prog X.w i1 a ag.toArray (na i1 (by simp))) (Ag k2 X.prog X.w i2 b om.toArray (nb i2 (by simp))) hz (.inl rfl) ja jh ⟨h1,pa⟩ ⟨h2,pb⟩ A9 JQ λh' u' v' f0 f1 nf pu pv _ Dr ku s1 s2 Gh _ kp=>Rc ?_) (Ua _))))
  obtain ⟨rfl,rfl⟩:=nf rfl
  obtain ⟨_,_,ku⟩:=ku
  have eu:u'=u:=by
   have q:ag[i]?=some u':=by simpa using pu
   rw [hu] at q
   exact (Option.some.inj q).symm
  have ev:v'=v:=by
   have q:om[i]?=some v':=by simpa using pv
   rw [hv] at q
   exact (Option.some.inj q).symm
  subst eu ev
  refine ⟨_,rfl,wpAny_letOwnedTupleGo_zip Dr λh2 IV oj=>?_⟩
  have Tz:s.heap.objs.size≠z:=Zj (Qo hz)
  have Kh:IsPair h2 s.heap.objs.size u' v':=oj.extBut _ _ Tz Gh
  have yc:=I.ax.fresh (Qh s.heap.objs.size)
  have fz:=I.j8 (Qh s.heap.objs.size) yc
  have I2:Inv X aa σ H { s with heap:=h2 }:=by
   refine I.je (t':=s.toks) [z,TO,i1,i2] (λc o bz e=>?_) (λc bz=>hf c ?_)
   ·simp only [Ql,Qt,or_false,not_or] at bz
    exact oj.extBut _ _ bz.1 (kp c o bz.1 bz.2.1 bz.2.2.1 bz.2.2.2 e)
   ·simp only [Ql,Qt,or_false] at bz ⊢
    rcases bz with r | r | r | r
    ·exact .inl r
    ·exact .inr (.inr (.inl r))
    ·exact .inr (.inr (.inr (.inl r)))
    ·exact .inr (.inr (.inr (.inr r)))
  have I3:Inv X aa σ (upd H s.heap.objs.size (.tup [x,y])) { s with heap:=h2 }:=by
   refine I2.pj (show bR X.prog X.w _ _ _ (.tup [x,y]) from ⟨by show 2<=sizeLine; rw [Rf]; decide,[u',v'],0,.cons ru (.cons AJ .nil),Kh⟩) yc fz.2.1 I.sz fz.2.2.2.2.1 fz.2.2.2.2.2
  refine ⟨.ref s.heap.objs.size,_,I3,rfl,⟨s.heap.objs.size,yc,rfl,λFy qr Ke d9=>?_⟩,⟨IV,oj.extBut _ _ DD.TIz (kp _ _ DD.TIz DD.TITO DD.TIi1 DD.TIi2 ja),⟨_,_,oj.extBut _ _ DD.TOz ku⟩,s1.1.at λo e=>oj.extBut _ _ DD.i1z e,s2.1.at λo e=>oj.extBut _ _ DD.i2z e⟩,λc bz=>?_⟩
  ·rw [I.ib Ke ha,I.ib d9 hb]
   exact ⟨x,y,hx,hy,rfl⟩
  ·have cl:c≠s.heap.objs.size:=by
    obtain ⟨o,e⟩:∃ o,s.heap.get? c=some o:=by
     simp only [Ql,Qt,or_false] at bz
     rcases bz with rfl | rfl | rfl | rfl | rfl
     ·exact ⟨_,hz⟩
     ·exact ⟨_,ja⟩
     ·exact ⟨_,jh⟩
     ·obtain ⟨o,e,_⟩:=h1.obj; exact ⟨o,e⟩
     ·obtain ⟨o,e,_⟩:=h2.obj; exact ⟨o,e⟩
    exact Qy (Qo e)
   rw [aF cl]
   exact (hf c bz).1
 done:=by
  intro X hP hw hK hc i aa s σ H E I hf st hg
  subst hP hw hK
  obtain ⟨hz,ja,⟨x0,y0,jh⟩,h1,h2⟩:=st
  obtain ⟨xs,ys,ha,hb,mw⟩:=hg
  obtain ⟨ag,rv,pa⟩:=I.i6 ha
  obtain ⟨om,fu,pb⟩:=I.i6 hb
  have la:=rv.length
  have lb:=fu.length
  have na:∀ c∈[z,TI,TO,i1,i2],a≠c:=λc bz=>I.gb ha (hf c bz)
  have nb:∀ c∈[z,TI,TO,i1,i2],b≠c:=λc bz=>I.gb hb (hf c bz)
  have DD:=D a b na nb
  have hT:s.TypeIs (.ref z) "zip" := ⟨_,hz,rfl⟩
  unfold pyNext
  refine Ra (Vy (Rn (name:=Str.ofString "__next__") hT Tb (Rz Tb hT Ud
   (US (I.ok.hd hc) DD (Ag k1 X.prog X.w i1 a ag.toArray (na i1 (by simp))) (Ag k2 X.prog X.w i2 b om.toArray (nb i2 (by simp))) hz (.inl rfl) ja jh ⟨h1,pa⟩ ⟨h2,pb⟩ (by rw [Qm,Qm]; omega) λh' e kp he=>?_) (Ua _))))
  obtain ⟨oe,A0,CG⟩:=he
  refine Ra (Rah (T := "StopIteration") (b:=true) ⟨oe,A0,CG⟩ isSubtype_stop (Rc ⟨rfl,?_⟩))
  refine I.je (t':=s.toks) [z,TO,i1,i2] (λc o bz e=>?_) (λc bz=>hf c ?_)
  ·simp only [Ql,Qt,or_false,not_or] at bz
   exact kp c o bz.1 bz.2.1 bz.2.2.1 bz.2.2.2 e
  ·simp only [Ql,Qt,or_false] at bz ⊢
   rcases bz with r | r | r | r
   ·exact .inl r
   ·exact .inr (.inr (.inl r))
   ·exact .inr (.inr (.inr (.inl r)))
   ·exact .inr (.inr (.inr (.inr r)))
 self:=λ_ _ _ _ _ st h=>Ur st.1 h
abbrev v_ (k1:Sk) (h:Heap) (a:Addr):Heap:=h.push (Dp k1 a)
abbrev za (k1 k2:Sk) (h:Heap) (a b:Addr):Heap:=(v_ k1 h a).push (Dp k2 b)
abbrev y_ (k1 k2:Sk) (h:Heap) (a b:Addr):Heap:=(za k1 k2 h a b).push { cls:=.type "tuple",data:=.seq #[.ref h.objs.size,.ref (v_ k1 h a).objs.size] }
abbrev Ci (k1 k2:Sk) (h:Heap) (a b:Addr):Heap:=(y_ k1 k2 h a b).push { cls:=.type "tuple",data:=.seq #[.none,.none] }
abbrev n8 (k1 k2:Sk) (h:Heap) (a b:Addr):Heap:=(Ci k1 k2 h a b).push { cls:=.type "zip",data:=.fields #[.none,.bool false,.bool false,.ref (za k1 k2 h a b).objs.size,.ref (y_ k1 k2 h a b).objs.size] }
theorem U0 (k1 k2:Sk) (a b:Addr) (xs ys:Array Value) :
  Meets (Builtin.«zip.__new__» ⟨[.type "zip",.ref a,.ref b],[]⟩) (λ_ R s=>u7 k1 s.heap a xs/\u7 k2 s.heap b ys/\R (.ok (.ret (.ref (Ci k1 k2 s.heap a b).objs.size))) { s with heap:=n8 k1 k2 s.heap a b }) :=
 .of_wp λprog w A R s h=>by
  obtain ⟨hp,g,d,tk,os⟩:=s
  obtain ⟨yb,mn,h⟩:=h
  have ET:=sub_zip
  have hA:u7 k1 (Shared.heap ⟨hp,g,d,tk,os⟩) a xs:=yb
  have hB:u7 k2 (Shared.heap ⟨hp.push (Dp k1 a),g,d,tk,os⟩) b ys:=u7.at mn λo e=>Qc _ e
  wp_walk using Su hA,Su hB
  exact ⟨_,rfl,h⟩
def T! (K:Rb) (k1 k2:Sk) (ta:TA):TI:=λσ H R=>ta σ H λvs H1=>∃ a b xs ys,vs = [.ref a,.ref b]/\jc k1 K H1 a xs/\jc k2 K H1 b ys/\R (L5 K k1 k2 a b) H1
theorem aGY (k1 k2:Sk) {a b:Expr} {ta:TA} {p:Pos} (hg:Gl X "zip") (hm:X.mg "zip" = none) (ha:PA X [a,b] ta) (hs:starEach [a,b] X.env = [(false,eval a X.env),(false,eval b X.env)]:=by rfl) (zo:starEach [b] X.env = [(false,eval b X.env)]:=by rfl) :
  PI X (.Tuple es x1 BB) (.Call (.Name "zip" p) [a,b] [] pos) (T! X.K k1 k2 ta):=by
 intro aa s σ H R I h
 refine Call_ (mK (u:=.type "zip") I hg hm (by decide +kernel) (PyProof.Rows.callWith_type1 (bh (ha pos aa s σ H _ I h) λus s1 ay=>?_) (by rw [hs,zo]) (by rw [zo]; rfl)))
 obtain ⟨vs,H1,I1,r1,q1⟩:=ay
 obtain ⟨l1,l2,xs,ys,rfl,hA,hB,q⟩:=q1
 obtain ⟨u1,u2,rfl,HQ,xk⟩:=rY r1
 cases HQ
 cases xk
 obtain ⟨ag,rv,pa⟩:=I1.i6 hA
 obtain ⟨om,fu,pb⟩:=I1.i6 hB
 refine Mu Mh (by decide) (Iv _ _) (Iy _ _) (λobj=>Ii obj _ _) Iz (U0 k1 k2 l1 l2 ag.toArray om.toArray) ⟨pa,pb,?_⟩
 have n1:(v_ k1 s1.heap l1).objs.size=s1.heap.objs.size+1:=Jm ..
 have n2:(za k1 k2 s1.heap l1 l2).objs.size=s1.heap.objs.size+2:=by rw [Jm,n1]
 have n3:(y_ k1 k2 s1.heap l1 l2).objs.size=s1.heap.objs.size+3:=by rw [Jm,n2]
 have n4:(Ci k1 k2 s1.heap l1 l2).objs.size=s1.heap.objs.size+4:=by rw [Jm,n3]
 have g5:IsZip (n8 k1 k2 s1.heap l1 l2) (Ci k1 k2 s1.heap l1 l2).objs.size (za k1 k2 s1.heap l1 l2).objs.size (y_ k1 k2 s1.heap l1 l2).objs.size .none:=Qj _ rfl
 have g4:IsPair (n8 k1 k2 s1.heap l1 l2) (y_ k1 k2 s1.heap l1 l2).objs.size .none .none:=Qc _ (Qj _ rfl)
 have g3:IsPair (n8 k1 k2 s1.heap l1 l2) (za k1 k2 s1.heap l1 l2).objs.size (.ref s1.heap.objs.size) (.ref (v_ k1 s1.heap l1).objs.size):=Qc _ (Qc _ (Qj _ rfl))
 have g2:kc k2 (n8 k1 k2 s1.heap l1 l2) (v_ k1 s1.heap l1).objs.size l2 0:=(kc.new k2 (v_ k1 s1.heap l1) l2).at λo e=>Qc _ (Qc _ (Qc _ e))
 have g1:kc k1 (n8 k1 k2 s1.heap l1 l2) s1.heap.objs.size l1 0:=(kc.new k1 s1.heap l1).at λo e=>Qc _ (Qc _ (Qc _ (Qc _ e)))
 have kp:∀ c o,s1.heap.get? c=some o->(n8 k1 k2 s1.heap l1 l2).get? c=some o:=λc o e=>Qc _ (Qc _ (Qc _ (Qc _ (Qc _ e))))
 refine ⟨⟨_,g5,rfl⟩,Ur (f0:=.none) g5 ?_⟩
 rw [n1,n2,n3,n4] at *
 have I2:Inv X aa σ H1 { s1 with heap:=n8 k1 k2 s1.heap l1 l2 }:=I1.kept (t':=s1.toks) kp
 refine ⟨s1.heap.objs.size+4,[s1.heap.objs.size+4,s1.heap.objs.size+2,s1.heap.objs.size+3,s1.heap.objs.size,s1.heap.objs.size+1],_,_,H1,rfl,I2,aDF k1 k2 l1 l2 _ _ _ _ _ ?_,⟨g5,g3,⟨_,_,g4⟩,g1,g2⟩,λc hc=>?_,q⟩
 ·intro m1 m2 h1 h2
  have d:∀ i j:Nat,i≠j->s1.heap.objs.size+i≠s1.heap.objs.size+j:=λi j h=>by omega
  exact ⟨d 2 4 (by decide),d 3 4 (by decide),d 0 4 (by decide),d 1 4 (by decide),d 2 3 (by decide),d 2 0 (by decide),d 2 1 (by decide),d 3 0 (by decide),d 3 1 (by decide),d 0 1 (by decide),
   h1 _ (by simp),h1 _ (by simp),h1 _ (by simp),h1 _ (by simp),h2 _ (by simp),h2 _ (by simp),h2 _ (by simp),h2 _ (by simp)⟩
 ·have bz:s1.heap.objs.size<=c:=by
   simp only [Ql,Qt,or_false] at hc
   rcases hc with r | r | r | r | r
   ·rw [r]; exact Xo _ _
   ·rw [r]; exact Xo _ _
   ·rw [r]; exact Xo _ _
   ·rw [r]; exact Qh _
   ·rw [r]; exact Xo _ _
  exact I1.j8 bz (I1.ax.fresh bz)
open PySem.AutoSeq1 (wpAny_loadPart')
theorem wC (l b:Addr) (items Cd:Array Value) (n n2:Nat) (dd CQ:Option Addr) (sl Cn:Array (Option Value)) (Ka:items.isEmpty=true) :
  Meets (Builtin.«tuple.__add__» ⟨[.ref l,.ref b],[]⟩) (λ_ R s=>s.heap.get? l=some { cls:=.type "tuple",dict:=dd,data:=.seq items n,slots:=sl }/\s.heap.get? b=some { cls:=.type "tuple",dict:=CQ,data:=.seq Cd n2,slots:=Cn }/\R (.ok (.ret (Value.ref b))) s) :=
 .of_wp λprog w A R s h=>by
  obtain ⟨hp,g,d,tk,os⟩:=s
  obtain ⟨hl,hb,h⟩:=h
  have f1:=AutoSeq1.idx_int
  have f2:=AutoSeq1.sub_tuple_tuple
  wp_walk using Tu hl,Tu hb
  exact ⟨_,rfl,h⟩
theorem aFe:fm X (binaryOp .Add) (λx y H Q=>∃ a b xs ys,x=.ref a/\y=.ref b/\aq X.K H a xs/\aq X.K H b ys/\xs.length+ys.length<=sizeLine/\∀ p H',aD H H'->aq X.K H' p (xs++ys)->Q (.ref p) H'):=by
 intro aa s σ H x y v u Q I rx ry h
 obtain ⟨a,b,xs,ys,rfl,rfl,ha,hb,hz,q⟩:=h
 by_cases hx:xs = []
 ·subst hx
  cases rx
  cases ry
  obtain ⟨ag,r1,⟨⟨cls,dd,data,sl⟩,ho,hc,n,hd⟩,_⟩:=I.tuple ha
  obtain ⟨j7,r2,⟨⟨Nn,CQ,data2,Cn⟩,xx,wo,n2,hd2⟩,_⟩:=I.tuple hb
  simp only at hc hd wo hd2
  subst hc hd wo hd2
  cases r1
  exact Mr ⟨_,ho,rfl⟩ ⟨_,xx,rfl⟩ Ir Mj Uz Uw (Uu _ _)
   (wC a b _ _ n n2 dd CQ sl Cn rfl) ⟨ho,xx,⟨.ref b,H,I,rfl,q b H (aD.refl H) hb⟩⟩
 ·refine aFa aa s σ H _ _ v u Q I rx ry ⟨a,b,xs,ys,rfl,rfl,ha,hb,hx,hz,λe=>?_,λe p hp=>?_⟩
  ·subst e
   exact q a H (aD.refl H) (by rw [We]; exact ha)
  ·exact q p _ (aD.new hp) (aq.of aB)
theorem oI {lo:Option Int} (ht:IsTup s.heap t items) (hs:s.heap.IsSliceOf sl vl vu .none) (pl:IsPart vl lo) (pu:IsPart vu hi) (hw:HT.cq items.size 0 lo=0/\HT.cq items.size items.size hi=items.size) (h:Q (.ref t) s):wpAny (model prog w) A (getItem (.ref t) (.ref sl)) Q E s:=by
 obtain ⟨os,rf,wm,lj⟩:=id hs
 have DM:s.TypeIs (.ref sl) "slice" := ⟨os,rf,wm⟩
 unfold getItem
 try with_reducible refine Rx ?_
 first | refine Ra (Rc ?_) | skip
 refine Ra (Il ht.typeIs (by decide) ?_)
 refine Ra (Rn (name:=Str.ofString "__getitem__") ht.typeIs PyProof.Rows.slot_tuple_getitem
  (Rz PyProof.Rows.slot_tuple_getitem ht.typeIs Vr ?_ (Ig _ _)))
 refine Ra (m:=Builtin.Tuple.tupleItemsOf (.ref t)) (Ml ht ?_)
 refine Ra (Vh DM ?_)
 rw [if_pos (by decide)]
 refine Ra (HT.fc hs pl pu ?_)
 have vc:(((HT.cq items.size 0 lo:Nat):Int)==0 && (1:Int)==1 && (HT.cq items.size items.size hi - HT.cq items.size 0 lo)==items.size)=true:=by
  rw [hw.1,hw.2]; simp
 show wpAny _ _ (if (((HT.cq items.size 0 lo:Nat):Int)==0 && (1:Int)==1 && (HT.cq items.size items.size hi - HT.cq items.size 0 lo)==items.size)=true then _ else _) _ _ s
 rw [if_pos vc]
 unfold Builtin.Tuple.tupleIsExact
 refine Ra (Ra (Vh ht.typeIs (Rc ?_)))
 refine wpAny_ite_split (λ_=>Ra (Ih (Rc ⟨_,rfl,Rc h⟩))) (λa!=>absurd (by rfl) a!)
theorem aFf:El X (λx lo hi H Q=>∃ a xs,x=.ref a/\aq X.K H a xs/\∀ p H',aD H H'->aq X.K H' p (pU xs lo hi)->Q (.ref p) H'):=by
 intro aa s σ H x v vl vu lo hi sl Q I rx hs pl pu h
 obtain ⟨a,xs,rfl,hx,q⟩:=h
 by_cases hw:HT.cq xs.length 0 lo=0/\HT.cq xs.length xs.length hi=xs.length
 ·cases rx
  obtain ⟨ag,r,ht,hz⟩:=I.tuple hx
  have hlen:ag.toArray.size=xs.length:=by rw [Qm]; exact r.length.symm
  refine ⟨"tuple",_,PyProof.Rows.slot_tuple_getitem.lookup,ht.typeIs,?_⟩
  refine oI ht hs pl pu (by rw [hlen]; exact hw) ⟨.ref a,H,I,rfl,q a H (aD.refl H) ?_⟩
  have e:pU xs lo hi=xs:=by
   unfold pU
   rw [hw.1,hw.2,Wj,Nat.sub_zero,Jr]
  rw [e]; exact hx
 ·exact aGU aa s σ H _ v vl vu lo hi sl Q I rx hs pl pu ⟨a,xs,rfl,hx,hw,λp hp=>q p _ (aD.new hp) (aq.of aB)⟩
theorem UR (xs:List V) (k:Nat):pU xs none (some (k:Int))=xs.take k:=by
 unfold pU
 rw [HT.nr,HT.qp,Wj,Nat.sub_zero]
 by_cases h:k<=xs.length
 ·rw [Nat.min_eq_left h]
 ·rw [Nat.min_eq_right (by omega),Jn (Qh _),Jn (by omega)]
theorem wW (xs:List V) (k:Nat):pU xs (some (k:Int)) none=xs.drop k:=by
 unfold pU
 rw [HT.nr,HT.qp]
 by_cases h:k<=xs.length
 ·rw [Nat.min_eq_left h,Jn (by rw [Xy]; exact Qh _)]
 ·rw [Nat.min_eq_right (by omega),Wa (Qh _),Wa (by omega),List.take_nil]
def yB (N bo:List Str) (fr:List Nat):Bool:=bo.length==fr.length && (bo.zip fr).all λy=>N[y.2]?==some y.1
theorem aDG (h1:X.env.scope=sc) (h2:X.N=N) (cf:∀ z0,z=some z0->(∀ (n:Nat) (cl:List (Str×Addr)),cellsFrom n scope.names cl=(z0,n)::cl)/\∀ h:Heap,pushCells h scope.names=h.push { cls:=.type "cell",data:=.cell none }) (h:(nK sc scope z own bo && yB N bo fr)=true):bx X scope z own fr bo:=by
 rw [Jc] at h
 obtain ⟨ha,hb⟩:=h
 unfold yB at hb
 simp only [Jc,beq_iff_eq,Jv] at hb
 refine ⟨by rw [h1]; exact ha,λk x hk=>?_,hb.1.symm,cf⟩
 have bw:k < fr.length:=by rw [<- hb.1]; exact (Qa.mp hk).1
 refine ⟨fr[k],Qb bw,?_⟩
 have hm:(x,fr[k])∈bo.zip fr:=by
  refine Qe (i:=k) ?_
  rw [Je]
  exact ⟨hk,Qb bw⟩
 rw [h2]
 exact hb.2 _ hm
theorem bK (sc:Scope) (N:List Str) (h1:X.env.scope=sc) (h2:X.N=N) (h:(nK sc scope none own bo && yB N bo fr)=true):bx X scope none own fr bo:=aDG h1 h2 (λ_ q=>by cases q) h
section
variable {own:Nat} {σ:St} {Q:Hp->List V->Prop}
theorem UQ {a0:α} {Fv:St} {Q:Hp->α->Prop} {tb:α->St->Hp->(α->St->Hp->Prop)->Prop} (n:Nat) (SH:St->Prop) (Pv:Nat->α->Hp->Prop) (gw:SH Fv) (h0:Pv 0 a0 H) (mz:∀ a H,Pv n a H->J.stop n H) (zw:∀ i a H,i < n->Pv i a H->J.go i H) (hs:∀ i a σ x H H',i < n->SH σ->Pv i a H->J.pw i H x H'->g x σ H' λaz H2=>tt az H2 λb H3=>if b=true then tb a az H3 λa' qq H4=>SH qq/\Pv (i+1) a' H4 else SH az/\Pv (i+1) a H3) (hd:∀ a H,Pv n a H->Q H a):jv J a0 Fv H (λa _ H=>Q H a) g tt tb:=by
 refine ⟨λi m ys ak H=>m=n - i/\i<=n/\SH ak/\Pv i ys H,⟨n,by simp,Jt _,gw,h0⟩,?_⟩
 rintro i m ys ak H ⟨rfl,hi,sh,p⟩
 by_cases bw:i < n
 ·refine .inr ⟨zw i ys H bw p,λqr az H2=>SH az/\Pv (i+1) qr H2,λqr az H2 ⟨e,q⟩=>⟨n - (i+1),by omega,rfl,bw,e,q⟩,λx H' y=>?_⟩
  exact hs i ys ak x H H' bw sh p y
 ·have e:i=n:=by omega
  subst e
  exact .inl ⟨mz ys H p,hd ys H p⟩
theorem lS (n:Nat) (hn:n<=sizeLine) (SH:St->Prop) (Pv:Nat->List V->Hp->Prop) (gw:SH (d7 own fr σ)) (h0:Pv 0 [] H) (hlen:∀ i ys H,Pv i ys H->ys.length<=i)
  (mz:∀ ys H,Pv n ys H->J.stop n H) (zw:∀ i ys H,i < n->Pv i ys H->J.go i H)
  (hs:∀ i ys σ x H H',i < n->SH σ->Pv i ys H->J.pw i H x H'->ys.length < sizeLine->g x σ H' λaz H2=>tt az H2 λb H3=>if b=true then te az H3 λy H4=>ys.length < sizeLine/\SH az/\Pv (i+1) (ys++[y]) H4 else SH az/\Pv (i+1) ys H3)
  (hd:∀ ys H,Pv n ys H->Q H ys) :
  jv J [] (d7 own fr σ) H (λys _ H=>Q H ys) g tt (oi te) :=
 UQ n SH Pv gw h0 mz zw (λi ys σ x H H' hi sh p y=>hs i ys σ x H H' hi sh p y (by have:=hlen i ys H p; omega)) hd
theorem aDH {a:Addr} (SH:St->Prop) (Pv:Nat->List V->Hp->Prop) (hn:xs.length<=sizeLine) (gw:SH (d7 own fr σ)) (h0:Pv 0 [] H) (hlen:∀ i ys H,Pv i ys H->ys.length<=i) (hl:∀ i ys H,Pv i ys H->aq K H a xs) (hs:∀ i ys σ x H,xs[i]?=some x->SH σ->Pv i ys H->ys.length < sizeLine->g x σ H λaz H2=>tt az H2 λb H3=>if b=true then te az H3 λy H4=>ys.length < sizeLine/\SH az/\Pv (i+1) (ys++[y]) H4 else SH az/\Pv (i+1) ys H3) (hd:∀ ys H,Pv xs.length ys H->Q H ys) :
  jv (An K a) [] (d7 own fr σ) H (λys _ H=>Q H ys) g tt (oi te):=by
 refine lS xs.length hn SH Pv gw h0 hlen (λys H p=>⟨xs,hl _ _ _ p,Qh _⟩) (λi ys H hi p=>⟨xs,xs[i],hl _ _ _ p,Qb hi⟩) (λi ys σ x H H' hi sh p y hz=>?_) hd
 obtain ⟨e,y⟩:=y
 subst e
 exact hs i ys σ x _ (y xs (hl _ _ _ p)) sh p hz
theorem nN {a:Addr} (SH:St->Prop) (Pv:Nat->List V->Hp->Prop) (hn:xs.length<=sizeLine) (gw:SH (d7 own fr σ)) (h0:Pv 0 [] H) (hlen:∀ i ys H,Pv i ys H->ys.length<=i) (hl:∀ i ys H,Pv i ys H->au K H a xs) (hs:∀ i ys σ x H,xs[i]?=some x->SH σ->Pv i ys H->ys.length < sizeLine->g x σ H λaz H2=>tt az H2 λb H3=>if b=true then te az H3 λy H4=>ys.length < sizeLine/\SH az/\Pv (i+1) (ys++[y]) H4 else SH az/\Pv (i+1) ys H3) (hd:∀ ys H,Pv xs.length ys H->Q H ys) :
  jv (xa K a) [] (d7 own fr σ) H (λys _ H=>Q H ys) g tt (oi te):=by
 refine lS xs.length hn SH Pv gw h0 hlen (λys H p=>⟨xs,hl _ _ _ p,Qh _⟩) (λi ys H hi p=>⟨xs,xs[i],hl _ _ _ p,Qb hi⟩) (λi ys σ x H H' hi sh p y hz=>?_) hd
 obtain ⟨e,y⟩:=y
 subst e
 exact hs i ys σ x _ (y xs (hl _ _ _ p)) sh p hz
theorem jV (SH:St->Prop) (Pv:Nat->List V->Hp->Prop) (hn:n<=sizeLine) (gw:SH (d7 own fr σ)) (h0:Pv 0 [] H) (hlen:∀ i ys H,Pv i ys H->ys.length<=i) (hs:∀ i ys σ H,i < n->SH σ->Pv i ys H->ys.length < sizeLine->g (.int (lo+i)) σ H λaz H2=>tt az H2 λb H3=>if b=true then te az H3 λy H4=>ys.length < sizeLine/\SH az/\Pv (i+1) (ys++[y]) H4 else SH az/\Pv (i+1) ys H3) (hd:∀ ys H,Pv n ys H->Q H ys) :
  jv (Ao lo n) [] (d7 own fr σ) H (λys _ H=>Q H ys) g tt (oi te):=by
 refine lS n hn SH Pv gw h0 hlen (λys H p=>Qh _) (λi ys H hi p=>hi) (λi ys σ x H H' hi sh p y hz=>?_) hd
 obtain ⟨e,y⟩:=y
 subst e y
 exact hs i ys σ _ hi sh p hz
theorem aDI {k1 k2:Sk} {a b:Addr} (SH:St->Prop) (Pv:Nat->List V->Hp->Prop) (hn:xs.length<=sizeLine) (heq:xs.length=ys.length) (gw:SH (d7 own fr σ)) (h0:Pv 0 [] H) (hlen:∀ i zs H,Pv i zs H->zs.length<=i) (hl:∀ i zs H,Pv i zs H->jc k1 K H a xs/\jc k2 K H b ys) (hs:∀ i zs σ x y p H,xs[i]?=some x->ys[i]?=some y->SH σ->Pv i zs H->H p=none->zs.length < sizeLine->g (.ref p) σ (upd H p (.tup [x,y])) λaz H2=>tt az H2 λc H3=>if c=true then te az H3 λy H4=>zs.length < sizeLine/\SH az/\Pv (i+1) (zs++[y]) H4 else SH az/\Pv (i+1) zs H3) (hd:∀ zs H,Pv xs.length zs H->Q H zs) :
  jv (L5 K k1 k2 a b) [] (d7 own fr σ) H (λys _ H=>Q H ys) g tt (oi te):=by
 refine lS xs.length hn SH Pv gw h0 hlen (λzs H p=>⟨xs,ys,(hl _ _ _ p).1,(hl _ _ _ p).2,by rw [<- heq,Zu]⟩) (λi zs H hi p=>⟨xs,ys,xs[i],ys[i]'(by omega),(hl _ _ _ p).1,(hl _ _ _ p).2,Qb hi,Qb (by omega)⟩) (λi zs σ v H H' hi sh p y hz=>?_) hd
 obtain ⟨q,hq,rfl,hy⟩:=y
 obtain ⟨x,y,h1,h2,rfl⟩:=hy xs ys (hl _ _ _ p).1 (hl _ _ _ p).2
 exact hs i zs σ x y q H h1 h2 sh p hq hz
end
theorem yC:∀ {xs:List V} {us:List Value},xs.length=us.length->(∀ (j:Nat) (x:V) (u:Value),xs[j]?=some x->us[j]?=some u->bQ x u)->bH xs us
 | [],[],_,_=>.nil
 | [],_::_,h,_=>by cases h
 | _::_,[],h,_=>by cases h
 | x::xs,u::us,h,k=>.cons (k 0 x u rfl rfl) (yC (by simpa using h) λj y v hy hv=>k (j+1) y v hy hv)
theorem rE {tk:Tok} {Q:Int×Int×Nat->Shared->Prop} (hs:s.heap.IsSliceOf sl .none .none (.int (-1) tk)) (h:Q ((n:Int) - 1,-1,n) s):wpAny (model prog w) A (Builtin.Slice.sliceApplied (.ref sl) (pure (n:Int))) Q E s:=by
 obtain ⟨os,rf,wm,lj⟩:=id hs
 unfold Builtin.Slice.sliceApplied Builtin.Slice.sliceFields
 refine Ra (Ra (Rk rf lj (x:=.none) rfl (Ra (Rk rf lj (x:=.none) rfl (Ra (Rk rf lj (x:=.int (-1) tk) rfl (Rc ?_)))))))
 refine Ra (HT.di (.int (-1) tk) ?_)
 show wpAny _ _ (if ((-1:Int)==0)=true then _ else _) _ _ s
 rw [if_neg (by decide)]
 refine Ra (HT.di .none (Ra (HT.di .none (Ra (Rc ?_)))))
 show wpAny _ _ (match Builtin.Slice.sliceAdjust none none (-1) (n:Int) with | (lo,hi)=>pure (lo,(-1:Int),Builtin.Slice.slicePlaces lo hi (-1))) _ _ s
 have e:Builtin.Slice.sliceAdjust none none (-1) (n:Int)=((n:Int) - 1,-1):=by simp [Builtin.Slice.sliceAdjust]
 rw [e]
 have e2:Builtin.Slice.slicePlaces ((n:Int) - 1) (-1) (-1)=n:=by
  unfold Builtin.Slice.slicePlaces
  rw [if_neg (by decide)]
  by_cases h0:n=0
  ·subst h0; decide
  ·rw [if_pos (by omega)]
   have:((n:Int) - 1 - -1 - 1) / (- -1)+1=n:=by rw [show (- -1:Int)=1 from rfl,Ws]; omega
   rw [this]; simp
 show wpAny _ _ (pure ((n:Int) - 1,(-1:Int),Builtin.Slice.slicePlaces ((n:Int) - 1) (-1) (-1))) _ _ s
 rw [e2]
 exact Rc h
theorem UZ {f g:α->Option β}:∀ {l:List α},(∀ x∈l,f x=g x)->l.filterMap f=l.filterMap g
 | [],_=>rfl
 | x::r,h=>by rw [Jx,Jx,h x (Qp ..),UZ λy hy=>h y (Qk _ hy)]
theorem UY (xs:Array Value):((List.range xs.size).filterMap λ(k:Nat)=>xs[((xs.size:Int) - 1+(k:Int)*(-1)).toNat]?).toArray=xs.toList.reverse.toArray:=by
 have h:=HT.nv xs.toList.reverse.toArray 0 xs.size
 have e:(List.range xs.size).filterMap (λ(k:Nat)=>xs[((xs.size:Int) - 1+(k:Int)*(-1)).toNat]?)=(List.range xs.size).filterMap (λ(m:Nat)=>xs.toList.reverse.toArray[(((0:Nat):Int)+(m:Int)*1).toNat]?):=by
  refine UZ λk hk=>?_
  have qe:=Zg.mp hk
  have h1:((xs.size:Int) - 1+(k:Int)*(-1)).toNat=xs.size - 1 - k:=by omega
  have h2:(((0:Nat):Int)+(k:Int)*1).toNat=k:=by omega
  rw [h1,h2]
  simp only [List.getElem?_toArray]
  rw [List.getElem?_reverse (by simpa using qe)]
  simp
 rw [e,h]
 congr 1
 rw [Wj,Jn (by simp)]
theorem qA {tk:Tok} (ht:IsTup s.heap t items) (hs:s.heap.IsSliceOf sl .none .none (.int (-1) tk)) (h:Q (.ref s.heap.objs.size) { s with heap:=s.heap.push { cls:=.type "tuple",data:=.seq items.toList.reverse.toArray } }) (hsz:items.size<=sizeLine):wpAny (model prog w) A (getItem (.ref t) (.ref sl)) Q E s:=by
 have gz:sizeOk (.seq items.toList.reverse.toArray):=by
  show items.toList.reverse.toArray.size<=sizeLine
  rw [Qm,Ye,Array.length_toList]
  exact hsz
 obtain ⟨os,rf,wm,lj⟩:=id hs
 have DM:s.TypeIs (.ref sl) "slice" := ⟨os,rf,wm⟩
 unfold getItem
 try with_reducible refine Rx ?_
 first | refine Ra (Rc ?_) | skip
 refine Ra (Il ht.typeIs (by decide) ?_)
 refine Ra (Rn (name:=Str.ofString "__getitem__") ht.typeIs PyProof.Rows.slot_tuple_getitem
  (Rz PyProof.Rows.slot_tuple_getitem ht.typeIs Vr ?_ (Ig _ _)))
 refine Ra (m:=Builtin.Tuple.tupleItemsOf (.ref t)) (Ml ht ?_)
 refine Ra (Vh DM ?_)
 rw [if_pos (by decide)]
 refine Ra (rE hs ?_)
 have gx:¬ ((((items.size:Int) - 1)==0 && (-1:Int)==1 && items.size==items.size)=true):=by simp
 show wpAny _ _ (if (((items.size:Int) - 1)==0 && (-1:Int)==1 && items.size==items.size)=true then _ else _) _ _ s
 rw [if_neg gx,UY]
 first
  | exact Ra (m:=Builtin.Tuple.tupleExact _) (Rq (Rc ⟨_,rfl,Rc h⟩) gz)
  | exact Ra (m:=Builtin.Tuple.tupleExact _) (Rq (Ra (Rc (Rc ⟨_,rfl,Rc h⟩))) gz)
  | exact Ra (Ra (m:=Builtin.Tuple.tupleExact _) (Rq (Rc (Rc ⟨_,rfl,Rc h⟩)) gz))
  | exact Ra (Ra (m:=Builtin.Tuple.tupleExact _) (Rq (Rc ⟨_,rfl,Rc h⟩) gz))
def GP (K:Rb) (te ts:TE):TE:=λσ H Q=>te σ H λx H1=>ts σ H1 λy H2=>y=.int (-1)/\∃ a xs,x=.ref a/\aq K H2 a xs/\∀ p,H2 p=none->Q (.ref p) (upd H2 p (.tup xs.reverse))
theorem aGZ {st:Expr} (he:PE X e te) (ig:PE X st ts):PE X (.Subscript e (.Slice none none (some st) p2) pos) (GP X.K te ts):=by
 intro aa s σ H Q I h
 refine Vi (bh (he aa s σ H _ I h) λv s1 ay=>?_)
 obtain ⟨x,H1,I1,r1,q1⟩:=ay
 refine Mz ?_
 rw [Us]
 refine Rc ?_
 show wpAny _ _ (evalPart none X.env) _ _ s1
 rw [Us]
 refine Rc ?_
 show wpAny _ _ (evalPart (some st) X.env) _ _ s1
 rw [Mm]
 refine bh (ig aa s1 σ H1 _ I1 q1) λWZ s3 ay=>?_
 obtain ⟨y,H3,I3,r3,q3⟩:=ay
 obtain ⟨rfl,a,xs,rfl,hx,q⟩:=q3
 obtain ⟨tk,rfl⟩:=r3
 cases r1
 have I4:Inv X aa σ H3 { s3 with heap:=s3.heap.push { cls:=.type "slice",data:=.fields #[.none,.none,.int (-1) tk] } }:=I3.kept (t':=s3.toks) λb ob q=>Qc _ q
 obtain ⟨ag,r,ht,hz⟩:=I4.tuple hx
 have hlen:=r.length
 have hg:wpAny (model X.prog X.w) X.A (getItem (.ref a) (.ref s3.heap.objs.size)) (EP X aa σ Q) X.xe { s3 with heap:=s3.heap.push { cls:=.type "slice",data:=.fields #[.none,.none,.int (-1) tk] } }:=by
  refine qA ht (Heap.IsSliceOf.new ..) ?_ (by rw [Qm]; omega)
  refine ⟨.ref _,_,I4.laid (t':=s3.toks) (o:=.tup xs.reverse) (λb ob q=>Qc _ q) (Qh _) ?_,rfl,q _ (I4.ax.fresh (Qh _))⟩
  exact ⟨by rw [Ye]; exact hz,ag.reverse,0,r.reverse,Qj _ rfl⟩
 show wpAny (model X.prog X.w) X.A (subscriptTail e (.Slice none none (some st) p2) (.ref a) (.ref s3.heap.objs.size)) (EP X aa σ Q) X.xe { s3 with heap:=s3.heap.push { cls:=.type "slice",data:=.fields #[.none,.none,.int (-1) tk] } }
 exact tail_any (ops:=[.ref a,.ref s3.heap.objs.size]) ht.typeIs PyProof.Rows.slot_tuple_getitem.lookup hg (by with_unfolding_all rfl)
def Vw (S:List Addr) (H:Hp):Hp:=λb=>if b∈S then none else H b
theorem Vw.out {S:List Addr} {b:Addr} (n:b∉S):Vw S H b=H b:=by unfold Vw; rw [if_neg n]
theorem Vw.sub {S:List Addr}:aD (Vw S H) H:=λb o h=>by
 by_cases z:b∈S
 ·unfold Vw at h; rw [if_pos z] at h; cases h
 ·rw [Vw.out z] at h; exact h
theorem Vw.keep {S:List Addr} (e:∀ b o,b∉S->H b=some o->H' b=some o):aD (Vw S H) (Vw S H'):=λb o h=>by
 by_cases z:b∈S
 ·unfold Vw at h; rw [if_pos z] at h; cases h
 ·rw [Vw.out z] at h ⊢; exact e b o z h
theorem Vw.same {S:List Addr} (e:aD H H'):aD (Vw S H) (Vw S H'):=Vw.keep λb o _ h=>e b o h
def Fx (S:List Addr) (H:Hp):Prop:=∀ b∈S,∃ xs,H b=some (.lst xs)
theorem Fx.same {S:List Addr} (f:Fx S H) (e:aD H H'):Fx S H':=λb hb=>let ⟨xs,h⟩:=f b hb; ⟨xs,e b _ h⟩
theorem Fx.new {S:List Addr} (f:Fx S H) (h:H p=none):p∉S:=λz=>by
 obtain ⟨xs,q⟩:=f p z
 rw [q] at h; cases h
section
variable {S:List Addr}
theorem Fx.ah {a:Addr} (f:Fx S H) (h:aq K H a xs):aq K (Vw S H) a xs:=by
 rcases h with (h | ⟨o,h⟩) | h
 ·exact .inl (.inl (by rw [Vw.out λz=>by obtain ⟨ys,q⟩:=f a z; rw [q] at h; cases h]; exact h))
 ·exact .inl (.inr ⟨o,by rw [Vw.out λz=>by obtain ⟨ys,q⟩:=f a z; rw [q] at h; cases h]; exact h⟩)
 ·exact .inr h
theorem Vw.at {o:HO} (f:Fx S H) (h:H p=none):Vw S (upd H p o) p=some o:=by rw [Vw.out (f.new h)]; exact aB
def Dn (K:Rb) (S:List Addr) (H:Hp) (x:V):Prop:=∃ d,Den K (Vw S H) d x
def DT (K:Rb) (S:List Addr) (n:Nat) (H:Hp) (x:V):Prop:=∃ a xs,x=.ref a/\aq K (Vw S H) a xs/\xs.length<=n/\∀ y∈xs,Dn K S H y
def II (_:Hp) (x:V):Prop:=∃ i,x=.int i
class Mo (R:Hp->V->Prop):Prop where
 mo:∀ {H H':Hp} {v:V},aD H H'->R H v->R H' v
theorem Dn.keep {x:V} (h:Dn K S H x) (e:aD (Vw S H) (Vw S H')):Dn K S H' x:=let ⟨d,h⟩:=h; ⟨d,e.den _ _ h⟩
theorem Dn.same {x:V} (h:Dn K S H x) (e:aD H H'):Dn K S H' x:=h.keep (Vw.same e)
theorem DT.keep {x:V} (h:DT K S n H x) (e:aD (Vw S H) (Vw S H')):DT K S n H' x:=let ⟨a,xs,h1,h2,h3,h4⟩:=h; ⟨a,xs,h1,e.ah h2,h3,λy hy=>(h4 y hy).keep e⟩
theorem DT.same {x:V} (h:DT K S n H x) (e:aD H H'):DT K S n H' x:=h.keep (Vw.same e)
instance:Mo (Dn K S):=⟨λe h=>Dn.same h e⟩
instance {n:Nat}:Mo (DT K S n):=⟨λe h=>DT.same h e⟩
instance:Mo II:=⟨λ_ h=>h⟩
def Al (H0:Hp) (S:List Addr) (te:TE) (σ:St) (R:Hp->V->Prop):Prop:=∀ H,aD H0 H->Fx S H->∀ Q:VK,(∀ v H',aD H H'->R H' v->Q v H')->te σ H Q
variable {σ:St} {R R':Hp->V->Prop} {t:TA} {tl th:TO}
theorem rF [m:Mo R] (h:σ[i]?=some (some v)) (r:R H0 v):Al H0 S (pQ i) σ R:=λH s _ Q k=>⟨v,h,k v H (aD.refl H) (m.mo s r)⟩
theorem Ec [m:Mo R] (r:R H0 v):Al H0 S (tC v) σ R:=λH s _ Q k=>k v H (aD.refl H) (m.mo s r)
theorem Al.mono (h:Al H0 S te σ R) (m:∀ H v,R H v->R' H v):Al H0 S te σ R':=λH s f Q k=>h H s f Q λv H' s' r=>k v H' s' (m H' v r)
def Ss (K:Rb):R2:=λx y H Q=>∃ a b xs ys,x=.ref a/\y=.ref b/\aq K H a xs/\aq K H b ys/\xs.length+ys.length<=sizeLine/\∀ p H',aD H H'->aq K H' p (xs++ys)->Q (.ref p) H'
theorem mV (hK:X.K=K):fm X (binaryOp .Add) (Ss K):=by subst hK; exact aFe
def K6 (K:Rb):V->Option Int->Option Int->Hp->VK->Prop:=λx lo hi H Q=>∃ a xs,x=.ref a/\aq K H a xs/\∀ p H',aD H H'->aq K H' p (pU xs lo hi)->Q (.ref p) H'
theorem tY (hK:X.K=K):El X (K6 K):=by subst hK; exact aFf
def UP (K:Rb):List V->Hp->VK->Prop:=λxs H Q=>∃ p ys,xs = [.ref p]/\(au K H p ys∨aq K H p ys)/\∀ l,H l=none->Q (.ref l) (upd H l (.lst ys))
theorem wD (hK:X.K=K):eT X (.type "list") (UP K):=by subst hK; exact pX
instance {a:Addr} {xs:List V}:Mo (λH v=>v=.ref a/\aq K H a xs):=⟨λe h=>⟨h.1,e.ah h.2⟩⟩
instance {x:V}:Mo (λ_ v=>v=x):=⟨λ_ h=>h⟩
theorem G_ {Q:VK} (f:Fx S H) (h:Al H S te σ R) (k:∀ v H',aD H H'->R H' v->Q v H'):te σ H Q:=h H (aD.refl H) f Q k
end
open PySem.AutoSeq1 (wpAny_loadPart')
theorem nf {b:Bool} (h:b=false):decide (b=true)=false:=by rw [h]; rfl
theorem nt {b:Bool} (h:b=true):decide (b=true)=true:=by rw [h]; rfl
section
variable {σ:St}
end
section
variable {S:List Addr} {E E':Hp->V->Prop}
def DTe (K:Rb) (S:List Addr) (E:Hp->V->Prop) (n:Nat) (H:Hp) (x:V):Prop:=∃ a xs,x=.ref a/\aq K (Vw S H) a xs/\xs.length<=n/\∀ y∈xs,E H y
def LTe (S:List Addr) (E:Hp->V->Prop) (n:Nat) (H:Hp) (x:V):Prop:=∃ a xs,x=.ref a/\Vw S H a=some (.lst xs)/\xs.length<=n/\∀ y∈xs,E H y
instance {n:Nat} [m:Mo E]:Mo (DTe K S E n):=⟨λe ⟨a,xs,h1,h2,h3,h4⟩=>⟨a,xs,h1,(Vw.same e).ah h2,h3,λy hy=>m.mo e (h4 y hy)⟩⟩
instance {n:Nat} [m:Mo E]:Mo (LTe S E n):=⟨λe ⟨a,xs,h1,h2,h3,h4⟩=>⟨a,xs,h1,Vw.same e _ _ h2,h3,λy hy=>m.mo e (h4 y hy)⟩⟩
variable {σ:St} {t:TA} {tl th:TO}
end
section
variable {env:Env} {bO:List Expr} {k:Nat} {a b c:Expr}
theorem eF:starEach (.Tuple es k pos::bO) env=(false,eval (.Tuple es k pos) env)::starEach bO env:=rfl
theorem yD:starEach (.List es pos::bO) env=(false,eval (.List es pos) env)::starEach bO env:=rfl
theorem UO {ks:List (Option Expr)}:starEach (.Dict ks es pos::bO) env=(false,eval (.Dict ks es pos) env)::starEach bO env:=rfl
theorem jH {op:Operator}:starEach (.BinOp a op b pos::bO) env=(false,eval (.BinOp a op b pos) env)::starEach bO env:=rfl
theorem Lh {op:UnaryOp}:starEach (.UnaryOp op a pos::bO) env=(false,eval (.UnaryOp op a pos) env)::starEach bO env:=rfl
theorem aO {v:Const}:starEach (.Constant v k pos::bO) env=(false,eval (.Constant v k pos) env)::starEach bO env:=rfl
theorem yE {x:Str}:starEach (.Name x pos::bO) env=(false,eval (.Name x pos) env)::starEach bO env:=rfl
theorem Ls:starEach (.Subscript a b pos::bO) env=(false,eval (.Subscript a b pos) env)::starEach bO env:=rfl
theorem aFh {kw:List Keyword}:starEach (.Call a es kw pos::bO) env=(false,eval (.Call a es kw pos) env)::starEach bO env:=rfl
end
def S? (scope sc:Scope):Scope:={ scope with names:=scope.names.map λ(n,k)=>if (k==NameKind.free && sc.kind==.function && sc.names.lookup n==some .cell) then (n,NameKind.cell) else (n,k) }
theorem aCS:ym X "list.index" (λx vs H Q=>∃ (a:Addr) (ns:List Int) (n:Int) (j:Nat),x=.ref a/\vs = [.int n]/\au X.K H a (ns.map V.int)/\ns[j]?=some n/\(∀ m,m < j->ns[m]?≠some n)/\Q (.int (j:Nat)) H):=by
 intro aa s σ H x xs v us Q I rx r h
 obtain ⟨a,ns,n,j,rfl,rfl,ha,hj,gx,q⟩:=h
 obtain ⟨u,rfl,t,rfl⟩:=iA r
 cases rx
 obtain ⟨ag,rv,⟨⟨cls,dd,data,sl⟩,k,ho,hc,O6,hd⟩,uh⟩:=I.list ha
 simp only at hc hd
 subst hc hd
 have hi:IntsAre ag ns:=pB rv
 have hl:=hi.length
 have qf:j < ns.length:=(Qa.mp hj).1
 have IU:ns.length<=sizeLine:=by rw [Qd] at uh; exact uh
 have val:∀ m (hm:m < ag.toArray.size),isInt n ag.toArray[m]=decide (ns[m]?=some n):=λm hm=>by
  have ZY:m < ag.length:=by simpa using hm
  have A1:m < ns.length:=by omega
  obtain ⟨w,hw,fu⟩:=rv.get (i:=m) (x:=.int ns[m]) (by rw [Qi,Qb A1]; rfl)
  obtain ⟨t',rfl⟩:=fu
  have e:ag.toArray[m]=.int ns[m] t':=by
   have:=Qb ZY
   rw [hw] at this
   simpa using (Option.some.inj this).symm
  rw [e,Qb A1]
  unfold isInt
  by_cases z:ns[m]=n
  ·simp [z]
  ·simp [z]
 refine Uq Ub ⟨_,ho,rfl⟩ Io (Ik _ _) (SeqAt.list_indexAt a ag.toArray k dd sl (.int n t) (isInt n) j (by simp; omega) (by rw [Rf] at IU; omega) ?_ ?_) ⟨ho,λy hy=>(eq_isInt n t hi y (by simpa using hy)).at _ _,?_⟩
 ·rw [val,hj]; simp
 ·intro m hm bw
  rw [val]
  exact decide_eq_false (gx m bw)
 ·exact ⟨.int _,H,I.tok _,⟨_,rfl⟩,q⟩
theorem bR.k9 {a:Addr} {o:HO} (x:bR P w H h a o):∃ ob,h.get? a=some ob:=by
 cases o with
 | lst xs=>obtain ⟨_,_,_,_,e⟩:=x; exact ⟨_,e⟩
 | tup xs=>obtain ⟨_,_,_,_,e⟩:=x; exact ⟨_,e⟩
 | dK kvs=>obtain ⟨_,_,_,_,o,_,_,e,_⟩:=x; exact ⟨_,e⟩
 | dT kvs=>obtain ⟨_,_,_,_,o,_,_,e,_⟩:=x; exact ⟨_,e⟩
 | set S n=>obtain ⟨o,_,_,_,e,_⟩:=x; exact ⟨_,e⟩
 | ins C dx fs=>obtain ⟨_,_,_,e,_⟩:=x; exact ⟨_,e⟩
 | own y=>obtain ⟨_,e⟩:=x; exact ⟨_,e⟩
 | xd fs=>obtain ⟨_,⟨_,_,_,e,_⟩,_⟩:=x; exact ⟨_,e⟩
 | sv lo hi=>obtain ⟨_,_,_,e⟩:=x; exact ⟨_,e⟩
 | bq ob u=>obtain ⟨e,_⟩:=x; exact ⟨_,e⟩
 | zb ps=>exact ⟨_,(show h.get? a=some _ from x)⟩
 | tab q=>obtain ⟨_,e,_⟩:=x; exact ⟨_,e⟩
 | met f y=>exact ⟨_,(show h.get? a=some _ from x)⟩
 | ext φ=>obtain ⟨_,⟨_,e⟩,_⟩:=x; exact ⟨_,e⟩
def G' (h:Heap) (a:Addr) (cls:Value) (T:Addr):Prop :=
 ∃ oe vs oT ts,h.get? a=some oe/\oe.cls=cls/\oe.data=.fields vs/\vs[1]?=some (.ref T)/\T≠a/\h.get? T=some oT/\oT.data=.fields ts/\ts[3]?=some .none
def fi (P:Program) (w:World):Ar:=λouter H s E e s'=>∃ (a T C:Addr) (H':Hp),e=.ref a/\s'.os=s.os/\AllBare s'.gens/\Un (dj outer) [] H H' s.heap s'.heap/\gi P w H' s'.heap/\G' s'.heap a (.ref C) T /\
 s.heap.get? a=none/\s.heap.get? T=none/\H' a=none/\H' T=none/\E (.ref C) none H'
theorem gU {b1 b2:Heap}:∀ {l:List Env},h.FunFrames b1 l->(∀ L∈dj l,b2.get? L=none)->h.FunFrames b2 l
 | [],_,_=>trivial
 | env::bO,⟨hk,⟨L,o,hf,hn,ho,hd⟩,hr⟩,hb=>⟨hk,⟨L,o,hf,hb L (by unfold dj; rw [Jx,hf]; exact Qp ..),ho,hd⟩,gU hr λM hM=>hb M (by
   unfold dj at hM ⊢
   rw [Jx,hf]
   exact Qk _ hM)⟩
theorem tZ {l:List Env} {a:Addr} {cls:Value} {s_:List Addr} (hb:base=Rw h s_) (hl:h.FunFrames base l) (x:Heap.Left base l a cls h h') (ha:a∈s_) :
  (∀ b o,b∉s_->h.get? b=some o->h'.get? b=some o)/\(∀ b o,b∈dj l->h.get? b=some o->∃ sl,h'.get? b=some { o with slots:=sl })/\∃ T,G' h' a cls T/\T∉dj l/\(T∈s_∨h.get? T=none):=by
 obtain ⟨x1,x2,⟨oe,vs,T,oT,ts,e1,e2,e3,e4,e5,e6,e7,e8,e9⟩,x4⟩:=x
 refine ⟨λb o nb e=>x1 b o (by rw [hb]; exact Vd _ e nb),λb o yd e=>?_,T,⟨oe,vs,oT,ts,e1,e2,e3,e4,e6,e7,e8,e9⟩,λz=>?_,?_⟩
 ·obtain ⟨_,o',ki,A_⟩:=hl.mem yd
  have eo:o'=o:=Option.some.inj (ki.symm.trans e)
  subst eo
  exact x4 b o' ki A_
 ·obtain ⟨_,o',ki,A_⟩:=x2.mem z
  have eo:o'=oT:=Option.some.inj (ki.symm.trans e7)
  subst eo
  exact A_ ts e8
 ·by_cases hT:T∈s_
  ·exact .inl hT
  ·refine .inr ?_
   cases q:h.get? T with
   | none=>rfl
   | some o =>
    have:=Vd s_ q hT
    rw [<- hb,e5] at this
    cases this
section
variable {cd:Value} {s0:Shared} {E:XK}
theorem UN {σ:St} {a:Addr} {s_:List Addr} {bs:Heap} (I:Inv (oG (fi P w) P w K mg base N qual scope f cd A outer s0 H0 E) aa σ H s) (hb:bs=Rw s.heap s_) (hl:s.heap.FunFrames bs (envOfC qual scope s0.heap.objs.size f cd::outer)) (x:Heap.Left bs (envOfC qual scope s0.heap.objs.size f cd::outer) a (.ref C) s.heap h') (ha:a∈s_) (hh:∀ b∈s_,b∈dj (envOfC qual scope s0.heap.objs.size f cd::outer)∨(s0.heap.get? b=none/\H b=none)) (hE:E (.ref C) none H) (b!:s0.heap.get? a=none) (j1:H a=none) :
  fi P w outer H0 s0 E (.ref a) { s with heap:=h' }:=by
 obtain ⟨k1,k2,T,fl,nT,hT⟩:=tZ hb hl x ha
 have Lne:∀ b o,s0.heap.get? b=some o->b≠s0.heap.objs.size:=λb o e z=>Jl _ (z ▸ Qo e)
 have fs:∀ b,b∈dj (envOfC qual scope s0.heap.objs.size f cd::outer)↔b=s0.heap.objs.size∨b∈dj outer:=λb=>by
  unfold dj
  rw [Jx]
  exact Ql
 have un:Un (dj outer) [] H0 H s0.heap s.heap:=I.base
 have nh:∀ b o,s0.heap.get? b=some o->b∉dj outer->b∉s_:=λb o e nb z=>by
  rcases hh b z with q | q
  ·rcases (fs b).mp q with q | q
   ·exact Lne b o e q
   ·exact nb q
  ·rw [q.1] at e; cases e
 have wa:∀ b u,H b=some u->b∉s_:=λb u e z=>by
  rcases hh b z with q | q
  ·rw [I.g_ b q] at e; cases e
  ·rw [q.2] at e; cases e
 have T0:s0.heap.get? T=none/\H T=none:=by
  rcases hT with z | z
  ·rcases hh T z with q | q
   ·exact absurd q nT
   ·exact q
  ·refine ⟨?_,?_⟩
   ·cases q:s0.heap.get? T with
    | none=>rfl
    | some o =>
     obtain ⟨o',e⟩:=un.there T o q (by simp)
     rw [z] at e; cases e
   ·cases q:H T with
    | none=>rfl
    | some u =>
     obtain ⟨o',e⟩:=(I.ax T u q).k9
     rw [show s.heap.get? T=none from z] at e; cases e
 refine ⟨a,T,C,H,rfl,I.os,I.bare,⟨λb o e n nb _=>?_,λb o e n d9 _=>?_,un.free,λb o e _=>?_,un.il,un.gm,un.ip⟩,λb u e=>?_,fl,b!,T0.1,j1,T0.2,hE⟩
 ·exact k1 b o (nh b o e nb) (un.keep b o e n nb (by simp))
 ·obtain ⟨sl,q⟩:=un.slot b o e n d9 (by simp)
  obtain ⟨AG,q'⟩:=k2 b _ ((fs b).mpr (.inr d9)) q
  exact ⟨AG,q'⟩
 ·obtain ⟨o',q⟩:=un.there b o e (by simp)
  by_cases d9:b∈dj outer
  ·obtain ⟨sl,q'⟩:=k2 b _ ((fs b).mpr (.inr d9)) q
   exact ⟨_,q'⟩
  ·exact ⟨o',k1 b o' (nh b o e d9) q⟩
 ·refine (I.ax b u e).d_ (λc v hc q=>k1 c v ?_ q) (λ_ q=>q) λ_ _ q=>q
  rcases hc with z | z
  ·rw [z]; exact wa b u e
  ·exact wa c _ z
theorem G9:mP (fi P w) (oG (fi P w) P w K mg base N qual scope f cd A outer s0 H0 E) E:=by
 intro aa σ H s e s' I h
 obtain ⟨a,T,C,H',rfl,os,bare,un,ax,fl,na,nT,j1,yj,hE⟩:=h
 have I3:Inv (oG (fi P w) P w K mg base N qual scope f cd A outer s0 H0 E) aa σ H' s':=I.nk (ch:=[]) os un ax bare (λb z=>absurd z (by simp))
 have Hw:Un (dj outer) [] H0 H s0.heap s.heap:=I.base
 have n0:∀ b,s.heap.get? b=none->s0.heap.get? b=none:=λb z=>by
  cases q:s0.heap.get? b with
  | none=>rfl
  | some o =>
   obtain ⟨o',e⟩:=Hw.there b o q (by simp)
   rw [z] at e; cases e
 have hl:s'.heap.FunFrames (Rw s'.heap (a::T::dj (envOfC qual scope s0.heap.objs.size f cd::outer))) (envOfC qual scope s0.heap.objs.size f cd::outer) :=
  gU I3.stack λL hL=>Ru _ (Qk _ (Qk _ hL))
 obtain ⟨oe,vs,oT,ts,e1,e2,e3,e4,e6,e7,e8,e9⟩:=fl
 show wpAny (model P w) (A.deeper (envOfC qual scope s0.heap.objs.size f cd)) (leaving (envOfC qual scope s0.heap.objs.size f cd) (.ref a)) _ _ s'
 refine wpAny_leaving_next (base:=Rw s'.heap (a::T::dj (envOfC qual scope s0.heap.objs.size f cd::outer))) (cls:=.ref C) I3.ok.frames hl rfl
  ⟨oe,vs,T,oT,ts,e1,e2,e3,e4,Ru _ (by simp),e6,e7,e8,e9⟩ (λb o q=>Tw _ q) (Ru _ (by simp)) λh' lf=>?_
 refine UN I3 rfl hl lf (by simp) (λb hb=>?_) hE (n0 a na) j1
 rcases Ql.mp hb with z | hb
 ·rw [z]; exact .inr ⟨n0 a na,j1⟩
 rcases Ql.mp hb with z | hb
 ·rw [z]; exact .inr ⟨n0 T nT,yj⟩
 ·exact .inl hb
theorem nO {σ:St} {a:Addr} {vs:List Value} (I:Inv (oG (fi P w) P w K mg base N qual scope f cd A outer s0 H0 E) aa σ H s) (m:Heap.MadeExcOf s.heap h' a (.ref C) vs) (hE:E (.ref C) none H) :
  (oG (fi P w) P w K mg base N qual scope f cd A outer s0 H0 E).xe (.ref a) { s with heap:=h' }:=by
 obtain ⟨t,e1,_,_⟩:=m.there
 have I3:Inv (oG (fi P w) P w K mg base N qual scope f cd A outer s0 H0 E) aa σ H { s with heap:=h' }:=I.kept (t':=s.toks) m.keeps
 have Hw:Un (dj outer) [] H0 H s0.heap s.heap:=I.base
 have a0:s0.heap.get? a=none:=by
  cases q:s0.heap.get? a with
  | none=>rfl
  | some o =>
   obtain ⟨o',e⟩:=Hw.there a o q (by simp)
   rw [m.new] at e; cases e
 have j1:H a=none:=by
  cases q:H a with
  | none=>rfl
  | some u =>
   obtain ⟨o',e⟩:=(I.ax a u q).k9
   rw [m.new] at e; cases e
 have hl:h'.FunFrames (Rw h' (a::dj (envOfC qual scope s0.heap.objs.size f cd::outer))) (envOfC qual scope s0.heap.objs.size f cd::outer) :=
  gU I3.stack λL hL=>Ru _ (Qk _ hL)
 show wpAny (model P w) (A.deeper (envOfC qual scope s0.heap.objs.size f cd)) (leaving (envOfC qual scope s0.heap.objs.size f cd) (.ref a)) _ _ { s with heap:=h' }
 refine wpAny_leaving_first (base:=Rw h' (a::dj (envOfC qual scope s0.heap.objs.size f cd::outer))) I3.ok.frames hl rfl e1 (λb o q=>Tw _ q) (Ru _ (by simp)) rfl rfl λh2 lf=>?_
 refine UN (s:={ s with heap:=h' }) I3 rfl hl lf (by simp) (λb hb=>?_) hE a0 j1
 rcases Ql.mp hb with z | hb
 ·rw [z]; exact .inr ⟨a0,j1⟩
 ·exact .inl hb
theorem o8.X5 {x:Str} {k:Nat} (F:o8 K x qual st f fd) (S:af N ps (aI st)) (len:∀ vs H Q E,sp vs H Q E->vs.length=ps.length) (f':∀ (bg:Value) (A:Around) (outer:List Env) (s:Shared) (H:Hp) (vs:List V) (Q:VK) (E:XK),aj k (A.deeper (envOfC qual (aI st) s.heap.objs.size f bg))->sp vs H Q E ->
   ∃ t,j4 (oG (fi P w) P w K mg base N qual (aI st) f bg A outer s H E) (eX st) t/\t { nx:=λ_ H'=>Q .br H',rt:=Q } (start N vs) H):ae P w K mg base (fi P w) (k+1) f fd ps sp:=by
 obtain ⟨oc,od,kV,doc,pm,an,bg,ct,qx,rfl,lk,ju⟩:=F.ex
 exact K_ lk ju S len λA outer s H vs Q E hr qb=>f' bg A outer s H vs Q E hr qb
theorem o8.zi {x:Str} {k:Nat} (F:o8 K x qual st f fd) (S:af N ps (aI st)) (f':∀ (bg:Value) (A:Around) (outer:List Env) (s:Shared) (H:Hp) (vs:List V) (Q:VK) (E:XK),aj k (A.deeper (envOfC qual (aI st) s.heap.objs.size f bg))->sp vs H Q E ->
   ∃ t,j4 (oG (fi P w) P w K mg base N qual (aI st) f bg A outer s H E) (eX st) t/\t { nx:=λ_ H'=>Q .br H',rt:=Q } (start N vs) H) (len:∀ vs H Q E,sp vs H Q E->vs.length=ps.length:=by
  intro vs H Q E h
  repeat (first | (obtain ⟨h,-⟩:=h; subst h; rfl) | obtain ⟨_,h⟩:=h)):ae P w K mg base (fi P w) (k+1) f fd ps sp:=F.X5 S len f'
end
abbrev i8:List Value:=[.type "ValueError",.type "Exception",.type "BaseException",.type "object"]
def xm:List Str:=["__init__", "__getattribute__", "__getattr__", "__class__"]
inductive jr (h:Heap) (wy:List Value):List Value->Prop
 | base:jr h wy wy
 | own {A:Addr} {c0:Value} {dd:Option Addr} {cd:ClassData} {sl:Array (Option Value)} {mA:Str->Option Value} {tl:List Value} :
   h.get? A=some { cls:=c0,dict:=dd,data:=.cls cd,slots:=sl }->h.Ns cd.ns mA->(∀ n∈xm,mA n=none)->jr h wy tl->jr h wy (.ref A::tl)
theorem jr.tail {wy tl:List Value} (T:jr h wy tl):OwnTail h wy tl:=by
 induction T with
 | base=>exact .base
 | own hA hN hq _ ih=>exact .own hA hN (hq _ (.head _)) ih
def jx (h:Heap) (C:Addr) (bm:List Value):Prop:=∃ N nm q bs hdct sn sub ab col dd k0 k1 k2 k3 k5 mN,h.get? C=some (excClassObj nm q C N bs bm hdct sn sub ab col dd k0 k1 k2 k3 k5 "ValueError.__new__")/\h.Ns N mN/\(∀ n∈xm,mN n=none)/\jr h i8 bm
section
variable {g:Array GenState} {d:Drawn} {t:Nat} {a:Addr}
theorem aFi {wy tl:List Value} {n:Str} {y:Option Value} {Q:Option Value->Shared->Prop} (hn:n∈xm) (T:jr h wy tl) (vm:lookupAlong wy n=pure y) (hq:Q y ⟨h,g,d,t,os⟩) :
  wpAny M A (lookupAlong tl n) Q E ⟨h,g,d,t,os⟩:=by
 induction T with
 | base=>rw [vm]; exact Rc hq
 | own hA hN ZU _ ih =>
  rw [Rai]
  refine Ra (wpAny_classOwn_cls hA hN ?_)
  rw [ZU n hn]
  exact ih
theorem Lr {n:Str} {y:Option Value} {Q:Option Value->Shared->Prop} (hn:n∈xm) (x:jx h C bm) (hB:typeLookup (.type "ValueError") n=pure y) (hq:Q y ⟨h,g,d,t,os⟩):wpAny M A (typeLookup (.ref C) n) Q E ⟨h,g,d,t,os⟩:=by
 obtain ⟨N,nm,q,bs,hdct,sn,sub,ab,col,dd,k0,k1,k2,k3,k5,mN,hC,hN,JO,T⟩:=x
 have vm:lookupAlong i8 n=pure y:=by rw [typeLookup_eq,PySem.F.excBase_ValueError.mroIs] at hB; exact hB
 rw [typeLookup_eq]
 refine Ra (wpAny_mroOf_exc hC ?_)
 rw [Rai]
 refine Ra (wpAny_classOwn_exc hC hN ?_)
 rw [JO n hn]
 exact aFi hn T vm hq
theorem aAs:typeLookup (.type "ValueError") "__class__" = pure (some (.builtin "object.__class__")):=by rw [typeLookup_type,builtinLookup_eq_fast]; kernel_rfl
theorem uA {base:Value} {Q:Bool->Shared->Prop} (x:jx h C bm) (hq:Q ((Value.ref C::bm).contains base) ⟨h,g,d,t,os⟩):wpAny M A (isSubtype (.ref C) base) Q E ⟨h,g,d,t,os⟩:=by
 obtain ⟨N,nm,q,bs,hdct,sn,sub,ab,col,dd,k0,k1,k2,k3,k5,mN,hC,hN,JO,T⟩:=x
 exact wpAny_isSubtype_exc hC hq
theorem jx.has (x:jx h C bm) (hb:i8.contains (.type T)=true):(Value.ref C::bm).contains (.type T)=true:=by
 obtain ⟨N,nm,q,bs,hdct,sn,sub,ab,col,dd,k0,k1,k2,k3,k5,mN,hC,hN,JO,TT⟩:=x
 rw [Yh,TT.tail.hasType hb,Bool.or_true]
theorem aAt (x:jx h C bm) (hx:h.get? a=some o) (hc:o.cls=.ref C) (hq:R (.ok (.ret (.ref C))) ⟨h,g,d,t,os⟩) :
  codeAny (model prog w) A (.call (.builtin "getset_descriptor.__get__") ⟨[.builtin "object.__class__",.ref a,.ref C],[]⟩) R ⟨h,g,d,t,os⟩:=by
 have Ph:(⟨h,g,d,t,os⟩:Shared).TypeIs (.builtin "object.__class__") "getset_descriptor" := Uo
 have DK:(Value.ref C::bm).contains (.type (".".intercalate ("object.__class__".cutAt '.').dropLast))=true:=by
  rw [PySem.F.owner_object_class]; exact x.has (by decide +kernel)
 refine Vp PySem.F.slot_gs_get.plain PySem.F.entry_gs_get (PySem.F.slot_gs_get.check _ _ _ _ _ _ _ _ Ph (PySem.F.args_gs_get _ _ _) ?_)
 repeat (any_goals (first | assumption | (with_reducible refine Rt hx ?_; rw [hc]) | (with_reducible refine uA x ?_; rw [DK]) | wp_step))
 refine ⟨Code.quiet_builtin _ (by decide +kernel),Vk PySem.F.entry_object_class ?_⟩
 repeat (any_goals (first | assumption | (with_reducible refine Rt hx ?_; rw [hc]) | wp_step))
theorem wE {tk:Tok} {Q:PySem.Fin->Shared->Prop} (x:jx h C bm) (hx:h.get? a=some o) (hc:o.cls=.ref C) (hq:Q (.done (.ret (.ref C))) ⟨h,g,d,t,os⟩) :
  wpAny (model prog w) A (Builtin.«object.__getattribute__» ⟨[.ref a,.str "__class__" tk],[]⟩) Q E ⟨h,g,d,t,os⟩:=by
 have Ph:(⟨h,g,d,t,os⟩:Shared).TypeIs (.builtin "object.__class__") "getset_descriptor" := Uo
 have f5:=Uo
 have f6:=PySem.F.slot_gs_get.lookup
 have f7:=PySem.F.slot_gs_set.lookup
 have hm:("__class__" : Str)∈xm:=.tail _ (.tail _ (.tail _ (.head _)))
 repeat (any_goals (first | assumption | (with_reducible refine Rt hx ?_; rw [hc]) | with_reducible refine Lr hm x aAs ?_ | wp_step))
 refine aAt x hx hc ?_
 repeat (any_goals (first | assumption | wp_step))
theorem aBi {Av:Value} {Q:Unit->Shared->Prop} (x:jx h C bm) (hx:h.get? a=some o) (hc:o.cls=.ref C) (hq:Q () ⟨h,g,d,t,os⟩):wpAny M A (checkBuiltinCall "BaseException.__getattribute__" ⟨[.ref a,Av],[]⟩) Q E ⟨h,g,d,t,os⟩:=by
 have hk:builtinKind "BaseException.__getattribute__" = some .slot:=by decide +kernel
 have Cf:splitId "BaseException.__getattribute__" = some ("BaseException", "__getattribute__"):=by decide +kernel
 have DK:(Value.ref C::bm).contains (.type "BaseException")=true:=x.has (by decide +kernel)
 have ha:=PySem.F.args_bexc_ga (.ref a) Av
 simp only [checkBuiltinCall,hk,Cf]
 refine Ra ?_
 ·unfold isInstance
  repeat (first | (with_reducible refine Rt hx ?_; rw [hc]) | (with_reducible refine uA x ?_; rw [DK]) | wp_step)
  exact hq
theorem aBj {tk:Tok} (x:jx h C bm) (hx:h.get? a=some o) (hc:o.cls=.ref C) (hq:Q (.ref C) ⟨h,g,d,t,os⟩):wpAny (model prog w) A (getAttrBy (.ref a) (.str "__class__" tk) false) Q E ⟨h,g,d,t,os⟩:=by
 have FB:=PySem.F.attrBase_ValueError
 have f3:=FB.ga.bind (.ref a)
 have Y9:(Value.builtin "BaseException.__getattribute__" == Value.builtin "object.__getattribute__")=false:=by decide +kernel
 have OI:(onTheHeap (Value.ref C) && Value.builtin "BaseException.__getattribute__" == Value.builtin "object.__getattribute__")=false:=by rw [Y9]; rfl
 have qd:("__getattribute__" : Str)∈xm:=.tail _ (.head _)
 have sx:("__getattr__" : Str)∈xm:=.tail _ (.tail _ (.head _))
 repeat (any_goals (first | assumption | (with_reducible refine Rt hx ?_; rw [hc]) | with_reducible refine Lr qd x FB.ga.lookup ?_ | with_reducible refine Lr sx x FB.noGetattr ?_ | wp_step))
 refine Vp FB.ga.plain PySem.F.entry_bexc_ga (aBi x hx hc (wE x hx hc ?_))
 repeat (any_goals (first | assumption | wp_step))
theorem yF {Q:Option Value->Shared->Prop} (x:jx h C bm) (hx:h.get? a=some o) (hc:o.cls=.ref C) (hq:Q (some (.ref C)) ⟨h,g,d,t+1,os⟩):wpAny (model prog w) A (getAttr? (.ref a) "__class__") Q E ⟨h,g,d,t,os⟩:=by
 unfold getAttr? getAttrBy?
 repeat (any_goals (first | assumption | with_reducible apply aBj x hx hc | wp_step))
theorem aFj {ly:Option Addr} {O?:ClassData} {AG:Array (Option Value)} (x:jx h C bm) (hx:h.get? a=some o) (hc:o.cls=.ref C) (ux:h.get? C'=some { cls:=.type "type",dict:=ly,data:=.cls O?,slots:=AG }) (hq:∀ t',Q (.bool ((Value.ref C::bm).contains (.ref C'))) ⟨h,g,d,t',os⟩):wpAny (model prog w) A (call (.builtin "isinstance") [.ref a,.ref C']) Q E ⟨h,g,d,t,os⟩:=by
 have f3:=tc_sub
 have Gh:(⟨h,g,d,t,os⟩:Shared).TypeIs (.ref C') "type" := ⟨_,ux,rfl⟩
 obtain ⟨N,nm,q,bs,hdct,sn,sub,ab,col,dd,k0,k1,k2,k3,k5,mN,hC,_⟩:=id x
 refine PyProof.Rows.call_isinstance_of ?_ (by intro e; cases e)
 by_cases e:C=C'
 ·subst e
  have hb:(Value.ref C::bm).contains (.ref C)=true:=by simp
  rw [hb] at hq
  unfold Builtin.«isinstance.nested»
  repeat (any_goals (first | assumption | (with_reducible refine Rt hx ?_; rw [hc]) | wp_step))
  exact hq _
 ·have ff:(Value.ref C==Value.ref C')=false:=by simp [e]
  cases hb:(Value.ref C::bm).contains (.ref C') with
  | true =>
   rw [hb] at hq
   unfold Builtin.«isinstance.nested»
   repeat (any_goals (first | assumption | (with_reducible refine Rt hx ?_; rw [hc]) | (with_reducible refine Rt ux ?_) | (with_reducible refine uA x ?_; rw [hb]) | wp_step))
   exact hq _
  | false =>
   rw [hb] at hq
   have hTC:∀ t',(⟨h,g,d,t',os⟩:Shared).TypeIs (.ref C) "type" := λ_=>⟨_,hC,rfl⟩
   unfold Builtin.«isinstance.nested»
   repeat (any_goals (first | assumption | (with_reducible refine Rt hx ?_; rw [hc]) | (with_reducible refine Rt ux ?_) | (with_reducible refine uA x ?_; rw [hb]) | with_reducible refine yF x hx hc ?_ | (with_reducible refine Rt hC ?_) | wp_step))
   exact hq _
theorem aG1 (x:jx h C bm) (hx:h.get? a=some o) (hc:o.cls=.ref C) (hq:∀ t',Q (.bool true) ⟨h,g,d,t',os⟩):wpAny (model prog w) A (call (.builtin "isinstance") [.ref a,.type "ValueError"]) Q E ⟨h,g,d,t,os⟩:=by
 have f3:=tc_sub
 have Ct:typeOf (.type "ValueError")=pure (.type "type"):=by kernel_rfl
 have ff:(Value.ref C==Value.type "ValueError")=false:=by rfl
 have hb:(Value.ref C::bm).contains (.type "ValueError")=true:=x.has (by decide +kernel)
 refine PyProof.Rows.call_isinstance_of ?_ (by intro e; cases e)
 unfold Builtin.«isinstance.nested»
 repeat (any_goals (first | assumption | (with_reducible refine Rt hx ?_; rw [hc]) | (with_reducible refine uA x ?_; rw [hb]) | wp_step))
 exact hq _
end
def Aq (C a:Addr):HO:=.ext λh=>∃ o,h.get? a=some o/\o.cls=.ref C
theorem Inv.QV {σ:St} {a:Addr} (I:Inv X aa σ H s) (h:H a=some (Aq C a)):∃ o,s.heap.get? a=some o/\o.cls=.ref C:=(I.ax a _ h).1
theorem yG (hK:X.K=K) (ux:∀ h:Heap,K.In h->∃ dd cd sl,h.get? C'=some { cls:=.type "type",dict:=dd,data:=.cls cd,slots:=sl }) :
  eT X (.builtin "isinstance") (λxs H Q=>∃ a C bm,xs = [.ref a,.ref C']/\H a=some (Aq C a)/\(∀ h:Heap,K.In h->jx h C bm)/\Q (.bl ((Value.ref C::bm).contains (.ref C'))) H):=by
 subst hK
 intro aa s σ H xs us Q I r h
 obtain ⟨a,C,bm,rfl,hH,hE,q⟩:=h
 obtain ⟨u,t,rfl,rx,rt⟩:=rY r
 cases rx
 cases rt
 obtain ⟨o,ho,hc⟩:=I.QV hH
 obtain ⟨dd,cd,sl,h2⟩:=ux _ I.i_
 obtain ⟨hh,g,d,tk,os⟩:=s
 exact aFj (hE _ I.i_) ho hc h2 λt'=>⟨.bl _,H,I.tok _,rfl,q⟩
theorem aAu (hK:X.K=K) :
  eT X (.builtin "isinstance") (λxs H Q=>∃ a C bm,xs = [.ref a,.ty "ValueError"]/\H a=some (Aq C a)/\(∀ h:Heap,K.In h->jx h C bm)/\Q (.bl true) H):=by
 subst hK
 intro aa s σ H xs us Q I r h
 obtain ⟨a,C,bm,rfl,hH,hE,q⟩:=h
 obtain ⟨u,t,rfl,rx,rt⟩:=rY r
 cases rx
 cases rt
 obtain ⟨o,ho,hc⟩:=I.QV hH
 obtain ⟨hh,g,d,tk,os⟩:=s
 exact aG1 (hE _ I.i_) ho hc λt'=>⟨.bl _,H,I.tok _,rfl,q⟩
def aG2 (C:Addr) (E:XK):TS:=λ_ _ H=>E (.ref C) none H
theorem kY {x txt:Str} {np:Pos} {k:Nat} {E:XK} (Gn:∀ h:Heap,X.K.In h->jx h C bm) (hg:Gl X x) (hm:X.mg x=some (.ref C)) (hc:X.calm=true) (hR:∀ (aa:List (Addr×Obj)) (σ:St) (H:Hp) (s:Shared) (h':Heap) (a:Addr) (vs:List Value),Inv X aa σ H s->Heap.MadeExcOf s.heap h' a (.ref C) vs->E (.ref C) none H->X.xe (.ref a) { s with heap:=h' }) (kj:(x==("__debug__" : Str))=false:=by decide) :
  PS X (.Raise (some (.Call (.Name x np) [.Constant (.str txt) k p2] [] c_)) none pos) (aG2 C E):=by
 intro aa s σ H D I h
 obtain ⟨N,nm,q,bs,hdct,sn,sub,ab,col,dd,k0,k1,k2,k3,k5,mN,hC,hN,hq,T⟩:=Gn _ I.ok.mod.xr
 refine wpAny_Raise_call_subU (C:=C) (nm:=nm) (q:=q) (N:=N) (bs:=bs) (bm:=bm) (hdct:=hdct) (sn:=sn) (sub:=sub) (ab:=ab) (col:=col) (dd:=dd) (k0:=k0) (k1:=k1) (k2:=k2) (k3:=k3) (k5:=k5) (mN:=mN)
  PySem.F.excBase_ValueError (by decide +kernel) PySem.F.excBase_ValueError (T.tail.hasType (by decide +kernel)) (I.ok.hd hc) rfl (hq _ (.head _)) ?_
 refine lL I hg hm ⟨rfl,?_⟩ kj
 have ha:PA X [.Constant (.str txt) k p2] (iL (tC (.str txt)) oF):=aA aK aC
 refine Calls.evalArgs_plain (Rj (ha c_ aa s σ H (λxs H1=>xs.length=1/\E (.ref C) none H1) I ⟨rfl,h⟩) (λvs jf ay=>?_) λ_ _ y=>y)
 obtain ⟨xs,H1,I1,r,z1,z⟩:=ay
 have DA:∀ b o,X.base.get? b=some o->jf.heap.get? b=some o:=I1.bk
 have hl:=r.length
 refine ⟨rfl,?_,DA _ _ hC,hN.keeps DA,T.tail.keeps DA,λh' a' m=>hR aa σ H1 jf h' a' _ I1 m z⟩
 show vs.length<=_
 rw [Rf]
 omega
section
variable {l:List Env} {E:XK} {a T:Addr}
theorem UX {bs:Heap} (un:Un (dj l) [] H H' s.heap s'.heap) (os:s'.os=s.os) (bare:AllBare s'.gens) (ax:gi P w H' s'.heap) (na:s.heap.get? a=none) (nT:s.heap.get? T=none) (j1:H' a=none) (yj:H' T=none) (hE:E (.ref C) none H') (hb:bs=Rw s'.heap (a::T::dj l)) (hl:s'.heap.FunFrames bs l) (wu:∀ b∈dj l,H' b=none) (x:Heap.Left bs l a (.ref C) s'.heap h'):fi P w l H s E (.ref a) { s' with heap:=h' }:=by
 obtain ⟨k1,k2,T',fl,YK,Gh⟩:=tZ hb hl x (by simp)
 have nh:∀ b o,s.heap.get? b=some o->b∉dj l->b∉a::T::dj l:=λb o e nb z=>by
  rcases Ql.mp z with q | z
  ·rw [q,na] at e; cases e
  rcases Ql.mp z with q | z
  ·rw [q,nT] at e; cases e
  ·exact nb z
 have wa:∀ b u,H' b=some u->b∉a::T::dj l:=λb u e z=>by
  rcases Ql.mp z with q | z
  ·rw [q,j1] at e; cases e
  rcases Ql.mp z with q | z
  ·rw [q,yj] at e; cases e
  ·rw [wu b z] at e; cases e
 have T0:s.heap.get? T'=none/\H' T'=none:=by
  rcases Gh with z | z
  ·rcases Ql.mp z with q | z
   ·rw [q]; exact ⟨na,j1⟩
   rcases Ql.mp z with q | z
   ·rw [q]; exact ⟨nT,yj⟩
   ·exact absurd z YK
  ·refine ⟨?_,?_⟩
   ·cases q:s.heap.get? T' with
    | none=>rfl
    | some o =>
     obtain ⟨o',e⟩:=un.there T' o q (by simp)
     rw [z] at e; cases e
   ·cases q:H' T' with
    | none=>rfl
    | some u =>
     obtain ⟨o',e⟩:=(ax T' u q).k9
     rw [show s'.heap.get? T'=none from z] at e; cases e
 refine ⟨a,T',C,H',rfl,os,bare,⟨λb o e n nb _=>?_,λb o e n d9 _=>?_,un.free,λb o e _=>?_,un.il,un.gm,un.ip⟩,λb u e=>?_,fl,na,T0.1,j1,T0.2,hE⟩
 ·exact k1 b o (nh b o e nb) (un.keep b o e n nb (by simp))
 ·obtain ⟨sl,q⟩:=un.slot b o e n d9 (by simp)
  obtain ⟨AG,q'⟩:=k2 b _ d9 q
  exact ⟨AG,q'⟩
 ·obtain ⟨o',q⟩:=un.there b o e (by simp)
  by_cases d9:b∈dj l
  ·obtain ⟨sl,q'⟩:=k2 b _ d9 q
   exact ⟨_,q'⟩
  ·exact ⟨o',k1 b o' (nh b o e d9) q⟩
 ·refine (ax b u e).d_ (λc v hc q=>k1 c v ?_ q) (λ_ q=>q) λ_ _ q=>q
  rcases hc with z | z
  ·rw [z]; exact wa b u e
  ·exact wa c _ z
theorem G'.vt {bs:Heap} {cls:Value} (fl:G' h a cls T) (hT:bs.get? T=none):∃ a0,h.TracedW bs a cls a0:=by
 obtain ⟨oe,vs,oT,ts,e1,e2,e3,e4,e6,e7,e8,e9⟩:=fl
 have hs:1 < vs.size:=(Array.getElem?_eq_some_iff.mp e4).1
 exact ⟨vs[0]'(by omega),oe,vs,T,oT,ts,e1,⟨e2,Array.getElem?_eq_getElem _⟩,e3,e4,hT,e6,e7,e8,e9⟩
end
section
variable {σ:St} {E:XK} {e:Value} {F:Value->Shared->Prop} {L:Addr}
theorem Inv.pq (I:Inv X aa σ H s) (h:fi X.prog X.w X.stack H s E e s'):∃ (a C:Addr) (H':Hp),e=.ref a/\Inv X aa σ H' s'/\s.heap.get? a=none/\H' a=none/\E (.ref C) none H'/\∃ o,s'.heap.get? a=some o/\o.cls=.ref C:=by
 obtain ⟨a,T,C,H',rfl,os,bare,un,ax,⟨oe,vs,oT,ts,e1,e2,_⟩,na,nT,j1,yj,hE⟩:=h
 exact ⟨a,C,H',rfl,I.nk (ch:=[]) os un ax bare (λb z=>absurd z (by simp)),na,j1,hE,oe,e1,e2⟩
theorem aDL (ig:X.stack=X.env::X.outer) (hf:X.env.frame=some L) (JU:A.frames=some X.stack) (I:Inv X aa σ H s) (h:fi X.prog X.w X.stack H s E e s') :
  wpAny M A (noteFrame e X.env) (λ_ s2=>wpAny M A (setFlight e none) (λ_ s3=>fi X.prog X.w X.stack H s E e s3) F s2) F s':=by
 obtain ⟨a,T,C,H',rfl,os,bare,un,ax,fl,na,nT,j1,yj,hE⟩:=h
 have I3:Inv X aa σ H' s':=I.nk (ch:=[]) os un ax bare (λb z=>absurd z (by simp))
 have hl:s'.heap.FunFrames (Rw s'.heap (a::T::dj X.stack)) X.stack :=
  gU I3.stack λL hL=>Ru _ (Qk _ (Qk _ hL))
 obtain ⟨a0,tr⟩:=fl.vt (bs:=Rw s'.heap (a::T::dj X.stack)) (Ru _ (by simp))
 have fin:=λ(h':Heap)=>UX (P:=X.prog) (w:=X.w) (h':=h') un os bare ax na nT j1 yj hE rfl hl I3.g_
 generalize Ge:Rw s'.heap (a::T::dj X.stack)=bs at *
 have kb:bs.StaysIn s'.heap:=λb o q=>by rw [<- Ge] at q; exact Tw _ q
 have en:bs.get? a=none:=by rw [<- Ge]; exact Ru _ (by simp)
 have mn:=hl
 rw [ig] at mn
 refine wpAny_looks_onW (base:=bs) (outer:=X.outer) (by rw [<- ig]; exact JU) hf ⟨kb,en,mn,tr⟩ λh1 held up1=>?_
 refine wpAny_landsW held λh2 o? XD=>?_
 obtain ⟨f1,f2,f3,f4⟩:=o?.flying
 exact fin h2 ⟨f1,by rw [ig]; exact f3,f4,up1.trans XD⟩
theorem aFk (I:Inv X aa σ H s) (h:fi X.prog X.w X.stack H s E e s'):wpAny M A (setFlight e none) (λ_ s3=>fi X.prog X.w X.stack H s E e s3) F s':=by
 obtain ⟨a,T,C,H',rfl,os,bare,un,ax,fl,na,nT,j1,yj,hE⟩:=h
 have I3:Inv X aa σ H' s':=I.nk (ch:=[]) os un ax bare (λb z=>absurd z (by simp))
 have hl:s'.heap.FunFrames (Rw s'.heap (a::T::dj X.stack)) X.stack :=
  gU I3.stack λL hL=>Ru _ (Qk _ (Qk _ hL))
 obtain ⟨a0,tr⟩:=fl.vt (bs:=Rw s'.heap (a::T::dj X.stack)) (Ru _ (by simp))
 have fin:=λ(h':Heap)=>UX (P:=X.prog) (w:=X.w) (h':=h') un os bare ax na nT j1 yj hE rfl hl I3.g_
 generalize Ge:Rw s'.heap (a::T::dj X.stack)=bs at *
 have kb:bs.StaysIn s'.heap:=λb o q=>by rw [<- Ge] at q; exact Tw _ q
 refine wpAny_setFlight_noneW kb hl tr.at λh1 k1 k2 k3 k4=>fin h1 ⟨k1,k2,?_,λb o q n=>⟨o.slots,k4 b o q n⟩⟩
 obtain ⟨oe,vs,T,oT,ts,he,hc,r⟩:=k3
 exact ⟨oe,vs,T,oT,ts,he,hc.1,r⟩
theorem Inv.B_ {D:Addr} {u:HO} (I:Inv X aa σ H s) (new:bR X.prog X.w (upd H D u) s.heap D u) (hn:H D=none) (hL:D≠X.env.locals)
  (h1:X.gq.heap.get? D=none) (h2:∀ x c,X.env.cells.lookup x=some c->c≠D) (h3:∀ p∈X.pn++aa,p.1≠D):Inv X aa σ (upd H D u) s:=by
 have ne:∀ b v,H b=some v->b≠D:=λb v e z=>by rw [z,hn] at e; cases e
 refine ⟨I.ok,I.os,I.bare,⟨I.base.keep,I.base.slot,λb o q n hx=>?_,I.base.there,λb xs q=>?_,λb o v q=>?_,λb ps q=>?_⟩,I.loc,I.cell,?_,λx c q=>?_,λp hp=>?_,λb v q=>?_,I.len⟩
 ·rw [aF (λz=>by rw [z,h1] at q; cases q)]; exact I.base.free b o q n hx
 ·have:=I.base.il b xs q
  rw [aF (ne b _ this)]; exact this
 ·have:=I.base.gm b o v q
  rw [aF (ne b _ this)]; exact this
 ·obtain ⟨more,this⟩:=I.base.ip b ps q
  exact ⟨more,by rw [aF (ne b _ this)]; exact this⟩
 ·rw [aF (Ne.symm hL)]; exact I.free
 ·rw [aF (h2 x c q)]; exact I.cy x c q
 ·obtain ⟨p1,p2,p3⟩:=I.pin p hp
  exact ⟨p1,by rw [aF (h3 p hp)]; exact p2,p3⟩
 ·by_cases hb:b=D
  ·subst hb
   rw [aB] at q; cases q
   exact new
  ·rw [aF hb] at q
   exact (I.ax b v q).d_ (λc v _ q=>q) (λc q=>by rw [aF (ne c _ q)]; exact q) λc xs q=>by rw [aF (ne c _ q)]; exact q
theorem aFl {x:Str} {Q:Unit->Shared->Prop} (I:Inv X aa σ H s) (hN:X.N.Nodup) (hi:X.N[i]?=some x) (hk:X.env.scope.names.lookup x=some .local) (h:∀ s',Inv X aa (σ.set i none) H s'->Q () s'):wpAny M A (do bindName X.env x .none; unbindBehindTheSuite X.env x pos) Q F s:=by
 obtain ⟨m,hn,hl⟩:=id I.loc
 have B0:(X.env.scope.kind==.class || (X.env.scope.kind==.module && X.env.locals !=X.env.globals))=false:=by rw [I.ok.kind]; rfl
 have yw:i < σ.length:=by rw [I.len]; exact (Qa.mp hi).1
 have u5:=I.u5
 obtain ⟨oL,_,_,uq,_⟩:=id hn
 refine wpAny_nameGoes_keeps hk hn B0 λh' v JM hs=>?_
 refine h _ ⟨I.ok,I.os,I.bare,⟨λb o e n hb hx=>?_,λb o e n hb hx=>?_,I.base.free,λb o e hx=>?_,I.base.il,I.base.gm,I.base.ip⟩,⟨_,JM,λj y v' e1 e2 e3=>?_⟩,λy c e=>?_,I.free,I.cy,λp hp=>?_,λb ob e=>?_,by simpa using I.len⟩
 ·exact (hs.2 b (Qy (Qq (Qo e) I.ok.above))).trans (I.base.keep b o e n hb hx)
 ·obtain ⟨sl,e1⟩:=I.base.slot b o e n hb hx
  exact ⟨sl,(hs.2 b (Qy (Qq (Qo e) I.ok.above))).trans e1⟩
 ·obtain ⟨o',e1⟩:=I.base.there b o e hx
  exact ⟨o',(hs.2 b (Qy (Qq (Qo e) I.ok.above))).trans e1⟩
 ·by_cases hj:j=i
  ·subst hj
   rw [Xz yw] at e2
   cases e2
  ·rw [Zz (Ne.symm hj)] at e2
   obtain ⟨u',r',q⟩:=hl j y v' e1 e2 e3
   refine ⟨u',r',?_⟩
   rcases q with ⟨k,e⟩ | ⟨k,c,e,z⟩
   ·refine .inl ⟨k,?_⟩
    have:y≠x:=λe=>hj (tL hN e1 (e ▸ hi))
    simp [this,e]
   ·exact .inr ⟨k,c,e,z.sameBut hs (u5 _ _ e)⟩
 ·obtain ⟨v',z⟩:=I.cell y c e
  exact ⟨v',z.sameBut hs (u5 _ _ e)⟩
 ·obtain ⟨p1,p2,p3,p4⟩:=I.pin p hp
  exact ⟨(hs.2 _ p3).trans p1,p2,p3,p4⟩
 ·refine (I.ax b ob e).d_ (λc w' hc q=>(hs.2 c ?_).trans q) (λ_ q=>q) λ_ _ q=>q
  rintro rfl
  rcases hc with z | hc
  ·rw [<- z,I.free] at e; cases e
  ·rw [I.free] at hc; cases hc
end
section
variable {g:Array GenState} {d:Drawn} {t:Nat} {a:Addr} {oe:Obj} {GN:List Value}
theorem aHR {Q:Bool->Shared->Prop} (x:jx h C bm) (x':jx h C' GN) (he:h.get? a=some oe) (hc:oe.cls=.ref C) (hb:(Value.ref C::bm).contains (.ref C')=true)
  (hq:Q true ⟨h,g,d,t,os⟩):wpAny M A (excMatches (.ref a) (.ref C')) Q E ⟨h,g,d,t,os⟩:=by
 have DK:(Value.ref C'::GN).contains (.type "BaseException")=true:=x'.has (by decide +kernel)
 have f:=tc_notTuple
 obtain ⟨N,nm,q,bs,hdct,sn,sub,ab,col,dd,k0,k1,k2,k3,k5,mN,ux,_⟩:=id x'
 unfold excMatches
 repeat (first | (with_reducible refine Rt he ?_; rw [hc]) | with_reducible refine Rt ux ?_ | (with_reducible refine uA x' ?_; rw [DK]) | (with_reducible refine uA x ?_; rw [hb]) | wp_step)
 exact hq
end
abbrev TB:=Ends->XK->St->Hp->Prop
def FX (X:Cx) (aa:List (Addr×Obj)) (σ:St) (EX:XK) (e:Value) (s':Shared):Prop:=∃ (H0:Hp) (s1:Shared),Inv X aa σ H0 s1/\fi X.prog X.w X.stack H0 s1 EX e s'
def PB (X:Cx) (st:List Stmt) (t:TB):Prop :=
 ∀ (aa:List (Addr×Obj)) (s:Shared) (σ:St) (H:Hp) (D:Ends) (EX:XK),Inv X aa σ H s->t D EX σ H->wpAny (model X.prog X.w) X.A (execs st X.env) (SP X aa D) (FX X aa σ EX) s
section
variable {k:Nat} {ds:List Value} {x:Str} {p:Pos} {t:TA}
theorem aFm {σ:St} {Q:VK} {EX:XK} (F:ae X.prog X.w X.K X.mg X.base (fi X.prog X.w) k f fd ps sp) (hr:aj k X.A) (hg:Gl X x) (hm:X.mg x=some (.ref f)) (hk:Tc X.K (.ref f)=true) (hb:jT X.K fd ps ds) (hd:bH fk ds) (ha:PA X.ud (e::es) t) (kj:(x==("__debug__" : Str))=false) (he:starEach (e::es) X.env=(false,eval e X.env)::starEach es X.env) (j_:(backTo pos (starEach es X.env)).any (·.1)=false) (I:Inv X aa σ H s) (h:G6 sp fk EX t σ H Q):wpAny (model X.prog X.w) X.A (eval (.Call (.Name x p) (e::es) [] pos) X.env) (EP X aa σ Q) (FX X aa σ EX) s:=by
 refine To (lL I hg hm ?_ kj)
 refine Tx (h₀:=X.base) I.ok.mod.xr hk (Rj (ha pos aa s σ H _ (I.ik _) h) (λus s1 ⟨vs,H1,Bx,r,q⟩=>⟨Bx.i_,?_⟩) λ_ _ z=>False.elim z) he j_
 have I1:Inv X aa σ H1 s1:=Bx.df
 have r2:bH (vs++fk) (us++ds):=r.append hd
 have hl:(us++ds).length=ps.length:=by rw [<- r2.length]; exact F.len _ _ _ _ q
 refine Vg (Uv (F.run X.A X.stack s1 H1 ⟨us,[]⟩ (us++ds) (vs++fk) Q EX hr I1.y4 (hb s1 us I1.i_ hl) r2 q) λr s' hq=>?_)
 cases r with
 | error e=>exact ⟨H1,s1,I1,hq⟩
 | ok fl =>
  cases fl with
  | ret u=>exact I1.after hq
  | next=>exact False.elim hq
  | brk=>exact False.elim hq
  | cont=>exact False.elim hq
def aG3 (sp:Sp) (fk:List V) (t:TA):TB:=λD EX σ H=>G6 sp fk EX t σ H λ_ H2=>D.nx σ H2
def aIA (tt:TT) (a b:TB):TB:=λD EX σ H=>tt σ H λc H1=>if c=true then a D EX σ H1 else b D EX σ H1
theorem aFn (F:ae X.prog X.w X.K X.mg X.base (fi X.prog X.w) k f fd ps sp) (hr:aj k X.A) (hg:Gl X x) (hm:X.mg x=some (.ref f)) (hk:Tc X.K (.ref f)=true) (hb:jT X.K fd ps ds) (hd:bH fk ds) (ha:PA X.ud (e::es) t) (kj:(x==("__debug__" : Str))=false:=by decide) (he:starEach (e::es) X.env=(false,eval e X.env)::starEach es X.env:=by rfl) (j_:(backTo pos (starEach es X.env)).any (·.1)=false:=by rfl) (hs:swapsWith (.Call (.Name x p) (e::es) [] pos) none pos'.line X.env=pure false:=by rfl):PB X [.Expr (.Call (.Name x p) (e::es) [] pos) pos'] (aG3 sp fk t):=by
 intro aa s σ H D EX I h
 refine Up (Mf (bh (aFm F hr hg hm hk hb hd ha kj he j_ I h) λv s1 ay=>?_) I.quiet hs)
 obtain ⟨x,H1,I1,r1,q1⟩:=ay
 exact Tr ⟨σ,H1,I1,q1⟩
theorem aHS {c:Expr} {a b:List Stmt} {ta tb:TB} (hc:PT X.ud c tt) (ha:PB X a ta) (hb:PB X b tb):PB X [.If c a b pos] (aIA tt ta tb):=by
 intro aa s σ H D EX I h
 refine Up (wpAny_If (Rj (hc aa s σ H _ (I.ik _) h) (λd s1 ay=>?_) λ_ _ z=>False.elim z))
 obtain ⟨H1,Bx,q1⟩:=ay
 have I1:Inv X aa σ H1 s1:=Bx.df
 have fin:∀ (l:List Stmt),(wpAny (model X.prog X.w) X.A (execs l X.env) (SP X aa D) (FX X aa σ EX) s1)->wpAny (model X.prog X.w) X.A (execs l X.env) (λf cb=>match f with | .next=>wpAny (model X.prog X.w) X.A (execs [] X.env) (SP X aa D) (FX X aa σ EX) cb | f=>SP X aa D f cb) (FX X aa σ EX) s1:=λl z =>
  bh z λf s2 q=>by
   cases f with
   | next=>exact Tr q
   | ret v=>exact q
   | brk=>exact q
   | cont=>exact q
 cases d with
 | true=>exact fin a (ha aa s1 σ H1 D EX I1 q1)
 | false=>exact fin b (hb aa s1 σ H1 D EX I1 q1)
def aIB (X:Cx) (C':Addr) (i j:Nat) (tb:TB):TS:=λD σ H=>tb D (λcls _ H2=>∃ C bm,cls=.ref C/\(∀ h:Heap,X.K.In h->jx h C bm)/\(Value.ref C::bm).contains (.ref C')=true/\∀ a,H2 a=none->D.nx ((σ.set i (some (.ref a))).set j none) (upd H2 a (Aq C a))) σ H
theorem aG4 {st:List Stmt} {tb:TB} {dn en cn:Str} {p4 p5 p6:Pos} {L:Addr} {GN:List Value} (hb:PB X st tb) (ig:X.stack=X.env::X.outer) (hf:X.env.frame=some L) (hex:X.ex = []) (hg:Gl X dn) (hm:X.mg dn=some (.ref C')) (ux:∀ h:Heap,X.K.In h->jx h C' GN) (hN:X.N.Nodup) (hi:X.N[i]?=some cn) (hj:X.N[j]?=some en) (A5:i≠j) (O0:X.env.scope.names.lookup cn=some .local) (hle:X.env.scope.names.lookup en=some .local) (kj:(dn==("__debug__" : Str))=false:=by decide) (hd2:(en==("__debug__" : Str))=false:=by decide) (ju:(en==("__classdict__" : Str))=false:=by decide) (hs:swapsWith (.Name en p3) (some (.Name cn p2)) p4.line X.env=pure false:=by rfl) :
  PS X (.Try st [.ExceptHandler (some (.Name dn p1)) (some en) [.Assign [.Name cn p2] (.Name en p3) p4] p5] [] [] p6) (aIB X C' i j tb):=by
 intro aa s σ H D I h
 refine wpAny_Try_except (Rj (hb aa s σ H D _ I h) (λf s1 q=>?_) λe s1 q=>?_)
 ·cases f with
  | next=>exact Tr q
  | ret v=>exact q
  | brk=>exact q
  | cont=>exact q
 obtain ⟨H0,s0,I0,q⟩:=q
 refine Rj (aDL (F:=X.xe) ig hf I.ok.frames I0 q) (λ_ s2 q2=>Rj q2 (λ_ s3 q3=>?_) λ_ _ z=>z) λ_ _ z=>z
 obtain ⟨a,_,_,rfl,_⟩:=I0.pq q3
 -- the clause is looked at with the exception held
 have zi:({ X with A:=X.A.mark (some (.ref a)),calm:=false,xe:=λ_ _=>False }:Cx).Ok :=
  ⟨I.ok.mod,I.ok.kind,I.ok.glob,I.ok.blt,I.ok.above,I.ok.inj,I.ok.has,I.ok.Ae,λz=>Bool.noConfusion (show false=true from z),I.ok.frames,I.ok.C8,I.ok.D0,I.ok.bs,I.ok.yl,I.ok.kn,I.ok.vj,I.ok.iq,I.ok.wu⟩
 have NN:∀ {ak:St} {H':Hp} {s':Shared},Inv X aa ak H' s'->Inv { X with A:=X.A.mark (some (.ref a)),calm:=false,xe:=λ_ _=>False } aa ak H' s':=λJ=>⟨zi,J.os,J.bare,J.base,J.loc,J.cell,J.free,J.cy,J.pin,J.ax,J.len⟩
 have X6:∀ {ak:St} {H':Hp} {s':Shared},Inv { X with A:=X.A.mark (some (.ref a)),calm:=false,xe:=λ_ _=>False } aa ak H' s'->Inv X aa ak H' s':=λJ=>⟨I.ok,J.os,J.bare,J.base,J.loc,J.cell,J.free,J.cy,J.pin,J.ax,J.len⟩
 refine wpAny_handleBy_cons (codeAny_handlers_test ?_) (by intro q; cases q)
 obtain ⟨a',C,H3,ea,I3,na,j1,⟨C1,bm,eC,Gn,E7,_⟩,o,ho,hc⟩:=I0.pq q3
 cases ea
 cases eC
 refine lL (X:={ X with A:=X.A.mark (some (.ref a)),calm:=false,xe:=λ_ _=>False }) (NN I3) hg hm ?_ kj
 obtain ⟨hh,gg,dd,tt,oo⟩:=s3
 refine aHR (Gn _ I3.i_) (ux _ I3.i_) ho hc E7 ?_
 show codeAny _ _ _ _ _
 refine codeAny_handlers_suite_as ?_
 refine Rj (aFk (F:=λ_ _=>False) I0 q3) (λ_ s4 q4=>?_) λ_ _ z=>False.elim z
 obtain ⟨a',C,H4,ea,I4,na,j1,⟨C1,bm,eC,Gn,E7,ZT⟩,o,ho,hc⟩:=I0.pq q4
 cases ea
 cases eC
 have old:∀ b o,s0.heap.get? b=some o->b≠a:=λb o e z=>by rw [z,na] at e; cases e
 have I5:Inv X aa σ (upd H4 a (Aq C a)) s4:=by
  refine I4.B_ ⟨⟨o,ho,hc⟩,⟨o,ho⟩,λh1 h2 ⟨o1,e1,c1⟩ k=>⟨o1,k o1 e1,c1⟩⟩ j1 ?_ ?_ (λy c e=>?_) λp hp=>?_
  ·obtain ⟨m,⟨oL,_,_,uq,_⟩,_⟩:=I0.loc
   exact Ne.symm (old _ _ uq)
  ·cases z:X.gq.heap.get? a with
   | none=>rfl
   | some o' =>
    obtain ⟨o2,e⟩:=I0.base.there a o' z (by rw [hex]; simp)
    exact absurd rfl (old _ _ e)
  ·obtain ⟨v,oc,qc,_⟩:=I0.cell y c e
   exact old _ _ qc
  ·exact old _ _ (I0.pin p hp).1
 refine qZ (i:=j) (v:=.ref a) I5 hN hj (.inl hle) rfl (λs5 I6 _=>?_) (.inr hle)
 have P1:j4 { X with A:=X.A.mark (some (.ref a)),calm:=false,xe:=λ_ _=>False } [.Assign [.Name cn p2] (.Name en p3) p4] (Bo (pQ j) (bN i)):=aJ (aX hN hi (.inl O0) (SY hj (.inl hle) hd2 ju) hs (.inr O0))
 have jl:j < σ.length:=by rw [I4.len]; exact (Qa.mp hj).1
 refine Rj (P1 aa s5 _ _ { nx:=λak H'=>ak=(σ.set j (some (.ref a))).set i (some (.ref a))/\H'=upd H4 a (Aq C a),rt:=λ_ _=>False } (NN I6) ⟨.ref a,Xz jl,rfl,rfl⟩) (λfl s6 q6=>?_) λ_ _ z=>False.elim z
 cases fl with
 | next =>
  obtain ⟨ak,H',I7,rfl,rfl⟩:=q6
  refine aFl (X6 I7) hN hj hle λs8 I8=>⟨_,_,I8,?_⟩
  have:=ZT a j1
  rw [List.set_comm _ _ A5.symm,List.set_set]
  exact this
 | ret v=>obtain ⟨_,_,_,_,_,z⟩:=q6; exact z.elim
 | brk=>obtain ⟨_,_,_,z⟩:=q6; exact z.elim
 | cont=>obtain ⟨_,_,_,z⟩:=q6; exact z.elim
end
theorem wX {bs:List Bool}:∀ {us:List Value},bH (bs.map V.bl) us->us=bs.map Value.bool:=by
 induction bs with
 | nil=>intro us r; rw [Xt] at r; cases r; rfl
 | cons b bs ih =>
  intro us r
  rw [Qz] at r
  cases r with
  | cons r1 r2 =>
   have e:_=Value.bool b:=r1
   rw [Qz,<- ih r2,e]
theorem UW {bs:List Bool} {k:Bool} {y:Value} (hy:y∈bs.map Value.bool) (A:Around) (s:Shared):SeqAt.EqAt A s y (.bool k) (isBoolOf k y):=by
 obtain ⟨b,_,rfl⟩:=Xu.mp hy
 exact SeqAt.EqAt.bool_bool b k
theorem aBk (hK:X.K=K):ym X "list.count" (λx vs H Q=>∃ (a:Addr) (bs:List Bool) (k:Bool),x=.ref a/\vs = [.bl k]/\au K H a (bs.map V.bl)/\Q (.int (bs.count k:Nat)) H):=by
 subst hK
 intro aa s σ H x xs v us Q I rx r h
 obtain ⟨a,bs,k,rfl,rfl,ha,q⟩:=h
 obtain ⟨u,rfl,e⟩:=iA r
 cases e
 cases rx
 obtain ⟨ag,rv,⟨⟨cls,dd,data,sl⟩,n,ho,hc,O6,hd⟩,uh⟩:=I.list ha
 simp only at hc hd
 subst hc hd
 obtain rfl:=wX rv
 refine Uq Ip ⟨_,ho,rfl⟩ PySem.F.entry_list_count (PySem.F.args_list_count_2 _ _) (SeqAt.list_countAt a (bs.map Value.bool).toArray n dd sl (.bool k) (isBoolOf k)) ⟨ho,λy hy=>UW (by simpa using hy) _ _,?_⟩
 have e:((bs.map Value.bool).toArray.toList.countP (isBoolOf k))=bs.count k:=by
  rw [Wm,List.countP_map]
  rfl
 rw [e]
 exact ⟨.int _,H,I.tok _,⟨_,rfl⟩,q⟩
theorem aBl (hK:X.K=K):ym X "list.index" (λx vs H Q=>∃ (a:Addr) (bs:List Bool) (k:Bool) (j:Nat),x=.ref a/\vs = [.bl k]/\au K H a (bs.map V.bl)/\bs[j]?=some k/\(∀ m,m < j->bs[m]?≠some k)/\Q (.int (j:Nat)) H):=by
 subst hK
 intro aa s σ H x xs v us Q I rx r h
 obtain ⟨a,bs,k,j,rfl,rfl,ha,hj,gx,q⟩:=h
 obtain ⟨u,rfl,e⟩:=iA r
 cases e
 cases rx
 obtain ⟨ag,rv,⟨⟨cls,dd,data,sl⟩,n,ho,hc,O6,hd⟩,uh⟩:=I.list ha
 simp only at hc hd
 subst hc hd
 obtain rfl:=wX rv
 have qf:j < bs.length:=(Qa.mp hj).1
 have IU:bs.length<=sizeLine:=by rw [Qd] at uh; exact uh
 have val:∀ m (hm:m < (bs.map Value.bool).toArray.size),isBoolOf k (bs.map Value.bool).toArray[m]=decide (bs[m]?=some k):=λm hm=>by
  have A1:m < bs.length:=by simpa using hm
  have e:(bs.map Value.bool).toArray[m]=Value.bool bs[m]:=by simp
  rw [e,Qb A1]
  unfold isBoolOf
  by_cases z:bs[m]=k
  ·simp [z]
  ·simp [z]
 refine Uq Ub ⟨_,ho,rfl⟩ Io (Ik _ _) (SeqAt.list_indexAt a (bs.map Value.bool).toArray n dd sl (.bool k) (isBoolOf k) j (by simp; omega) (by rw [Rf] at IU; omega) ?_ ?_) ⟨ho,λy hy=>UW (by simpa using hy) _ _,?_⟩
 ·rw [val,hj]; simp
 ·intro m hm bw
  rw [val]
  exact decide_eq_false (gx m bw)
 ·exact ⟨.int _,H,I.tok _,⟨_,rfl⟩,q⟩
structure sj (X:Cx) (e:Expr) (t:TE):Prop where
 go:PE X e t
structure Eo (X:Cx) (es:List Expr) (t:TA):Prop where
 go:PA X es t
structure Br (X:Cx) (st:Stmt) (t:TS):Prop where
 go:PS X st t
structure gp (X:Cx) (Cj:List Stmt) (t:TS):Prop where
 go:j4 X Cj t
section
variable {a b:Expr} {t:TA} {bO:List Stmt} {ts us:TS}
theorem bD:Eo X [] oF:=⟨aC⟩
theorem aG (h:sj X e te) (r:Eo X es t) (hs:starEach (e::es) X.env=(false,eval e X.env)::starEach es X.env):Eo X (e::es) (iL te t):=⟨aA h.go r.go hs⟩
theorem cZ {i j}:sj X (.Constant (.int i) j pos) (tC (.int i)):=⟨aH⟩
theorem eY {i j}:sj X (.Constant (.bool i) j pos) (tC (.bl i)):=⟨fY⟩
theorem sT {j}:sj X (.Constant .none j pos) (tC .br):=⟨oS⟩
theorem cG {x j}:sj X (.Constant (.str x) j pos) (tC (.str x)):=⟨aK⟩
theorem cN {k} (h:Eo X es t):sj X (.Tuple es k pos) (Ai t):=⟨cB h.go⟩
theorem eJ (h:Eo X es t):sj X (.List es pos) (Ea t):=⟨gT h.go⟩
theorem mW {op:Operator} (ho:fm X (binaryOp op) r) (ha:sj X a ta) (hb:sj X b tb):sj X (.BinOp a op b pos) (xf r ta tb):=⟨aY ho ha.go hb.go⟩
theorem bE (h:Br X st ts):gp X [st] ts:=⟨aJ h.go⟩
theorem aM (h:Br X st ts) (r:gp X bO us):gp X (st::bO) (CZ ts us):=⟨aE h.go r.go⟩
theorem cO {x:Str} (hN:X.N.Nodup) (hi:X.N[i]?=some x) (hx:Loc X.env.scope x) (he:sj X e te) (hs:swapsWith e (some (.Name x pos')) pos.line X.env=pure false:=by rfl) (hf:X.fn x=true∨X.env.scope.names.lookup x=some .local:=by first | exact .inl rfl | exact .inr rfl | assumption) :
  Br X (.Assign [.Name x pos'] e pos) (Bo te (bN i)):=⟨aX hN hi hx he.go hs hf⟩
end
section
variable {Z:List Addr} {S:St->Prop} {a b:Expr}
theorem gp.ex {Cj:List Stmt} {t:TS} {R:TS->Prop} (h:gp X Cj t) (r:R t):∃ t,j4 X Cj t/\R t:=⟨t,h.go,r⟩
theorem gO (h:sj X e te):Br X (.Return (some e) pos) (Sa te):=⟨aR h.go⟩
end
section
variable {l:Expr} {tb:TS}
theorem mX (hp:PassesOwn (model X.prog X.w) X.A X.env X.xe) (hc:X.calm=true) (hl:sj X l tl) (hg:PG X tg g) (hb:gp X body tb) (hs:∀ x,foldedSetIterable l X.env x=pure x) :
  Br X (.For tg l body [] pos) (GY (Lb X.K tl) g tb):=⟨hV hp hc (hU hl.go) hg hb.go hs⟩
end
def UU (e:DictEntry):Bool:=match e.key with
 | .str _ _=>true
 | _=>false
def mv (K:Rb) (C:Addr) (bm:List Value):Bool:=match K.lookup C with
 | some ⟨.type "type", _, .cls cd, sl⟩ => (match sl.toList with
   | [_, _, _, _, some (.builtin n), _] => n == "ValueError.__new__" && cd.mro == .ref C :: bm && !cd.hasDel && (match K.lookup cd.ns with
     | some ⟨_,_,.dict es _,_⟩=>es.toList.all UU && xm.all (λn=>(es.toList.find? (·.key.isStr n)).isNone)
     | _=>false)
   | _=>false)
 | _=>false
theorem Lg (X:K.In h) (q:mv K C bm=true):∃ N nm qn bs hdct sn sub ab col dd k0 k1 k2 k3 k5 mN,
  h.get? C=some (excClassObj nm qn C N bs bm hdct sn sub ab col dd k0 k1 k2 k3 k5 "ValueError.__new__")/\h.Ns N mN/\∀ n∈xm,mN n=none:=by
 unfold mv at q
 split at q
 ·rename_i dd cd sl ho
  split at q
  ·rename_i k0 k1 k2 k3 n k5 hs
   split at q
   ·rename_i c1 d1 es ep s1 hN
    simp only [Jc,beq_iff_eq,Bool.not_eq_true',Jv,Option.isNone_iff_eq_none] at q
    obtain ⟨⟨⟨rfl,hm⟩,E2⟩,hk,hq⟩:=q
    obtain ⟨nm,bs,mro,ns,qn,hd,sn,sub,ab,col,del⟩:=cd
    dsimp only at hm E2 hN
    subst hm E2
    have ZH:sl = #[k0,k1,k2,k3,some (.builtin "ValueError.__new__"),k5]:=by
     obtain ⟨l⟩:=sl
     simp only at hs
     rw [hs]
    subst ZH
    refine ⟨ns,nm,qn,bs,hd,sn,sub,ab,col,dd,k0,k1,k2,k3,k5,nsFind es,X _ _ ho,⟨_,es,ep,X _ _ hN,rfl,λe he=>?_,λ_=>rfl⟩,λn hn=>?_⟩
    ·have:=hk e (Array.mem_toList_iff.mpr he)
     unfold UU at this
     split at this
     ·rename_i a b e; exact ⟨a,b,e⟩
     ·cases this
    ·have:=hq n hn
     unfold nsFind findBy
     rw [<- Array.find?_toList,this]
     rfl
   ·simp at q
  ·cases q
 ·cases q
theorem aDN (q:mv K C i8=true) (h:Heap) (X:K.In h):jx h C i8:=by
 obtain ⟨N,nm,qn,bs,hdct,sn,sub,ab,col,dd,k0,k1,k2,k3,k5,mN,h1,h2,h3⟩:=Lg X q
 exact ⟨N,nm,qn,bs,hdct,sn,sub,ab,col,dd,k0,k1,k2,k3,k5,mN,h1,h2,h3,.base⟩
theorem iD {D:Addr} (qD:mv K D i8=true) (q:mv K C (.ref D::i8)=true) (h:Heap) (X:K.In h):jx h C (.ref D::i8):=by
 obtain ⟨N,nm,qn,bs,hdct,sn,sub,ab,col,dd,k0,k1,k2,k3,k5,mN,h1,h2,h3⟩:=Lg X q
 obtain ⟨_,_,_,_,_,_,_,_,_,_,_,_,_,_,_,mD,e1,e2,e3⟩:=Lg X qD
 exact ⟨N,nm,qn,bs,hdct,sn,sub,ab,col,dd,k0,k1,k2,k3,k5,mN,h1,h2,h3,.own e1 e2 e3 .base⟩
section
variable {e l:Addr} {P:Nat->Value->Prop} {st:Nat->Heap->Prop}
end
theorem aG5 (h:n<=1000):n<=sizeLine:=by rw [Rf]; omega
section
variable {own:Nat} {σ:St}
theorem aFo (h:vs[i]?=some v):vs.take (i+1)=vs.take i++[v]:=by rw [Jw,h]; rfl
theorem yH (SH:St->Prop) (hn:n<=1000) (hl:vs.length=n) (gw:SH (d7 own fr σ)) (mz:∀ H',aD H H'->J.stop n H') (zw:∀ i H',i < n->aD H H'->J.go i H') (hs:∀ i v x σ H1 H2,i < n->vs[i]?=some v->SH σ->aD H H1->J.pw i H1 x H2->∀ Q:V->St->Hp->Prop,(∀ az H4,SH az->aD H1 H4->Q v az H4)->g x σ H2 λaz H3=>te az H3 λy H4=>Q y az H4) (hd:∀ H',aD H H'->Qf H' vs) :
  jv J [] (d7 own fr σ) H (λys _ H=>Qf H ys) g Ah (oi te):=by
 refine lS n (aG5 hn) SH (λi ys H'=>ys=vs.take i/\aD H H') gw ⟨rfl,aD.refl H⟩ (λi ys H' p=>by rw [p.1,Ji]; omega) (λys H' p=>mz H' p.2) (λi ys H' hi p=>zw i H' hi p.2) ?_ (λys H' p=>?_)
 ·rintro i ys ak x H1 H2 hi sh ⟨rfl,s1⟩ hy hz
  have hv:vs[i]?=some vs[i]:=Qb (by omega)
  have h:=hs i vs[i] x ak H1 H2 hi hv sh s1 hy (λy az H4=>(vs.take i).length < sizeLine/\SH az/\(vs.take i++[y]=vs.take (i+1)/\aD H H4)) λaz H4 XT s4=>⟨hz,XT,(aFo hv).symm,s1.trans s4⟩
  exact h
 ·obtain ⟨rfl,s1⟩:=p
  rw [Jn (by omega)]
  exact hd H' s1
theorem aDO {a:Addr} (SH:St->Prop) (hn:xs.length<=1000) (hl:vs.length=xs.length) (ha:au K H a xs) (gw:SH (d7 own fr σ)) (hs:∀ (i:Nat) x v σ H1,xs[i]?=some x->vs[i]?=some v->SH σ->aD H H1->∀ Q:V->St->Hp->Prop,(∀ az H4,SH az->aD H1 H4->Q v az H4)->g x σ H1 λaz H2=>te az H2 λy H4=>Q y az H4) (hd:∀ H',aD H H'->Qf H' vs) :
  jv (xa K a) [] (d7 own fr σ) H (λys _ H=>Qf H ys) g Ah (oi te):=by
 refine yH SH hn hl gw (λH' s=>⟨xs,s.jm ha,Qh _⟩) (λi H' hi s=>⟨xs,xs[i],s.jm ha,Qb hi⟩) (λi v x σ H1 H2 hi hv sh s y Q k=>?_) hd
 obtain ⟨e,y⟩:=y
 subst e
 exact hs i x v σ _ (y xs (s.jm ha)) hv sh s Q k
theorem uB {a:Addr} (SH:St->Prop) (hn:xs.length<=1000) (hl:vs.length=xs.length) (ha:aq K H a xs) (gw:SH (d7 own fr σ)) (hs:∀ (i:Nat) x v σ H1,xs[i]?=some x->vs[i]?=some v->SH σ->aD H H1->∀ Q:V->St->Hp->Prop,(∀ az H4,SH az->aD H1 H4->Q v az H4)->g x σ H1 λaz H2=>te az H2 λy H4=>Q y az H4) (hd:∀ H',aD H H'->Qf H' vs) :
  jv (An K a) [] (d7 own fr σ) H (λys _ H=>Qf H ys) g Ah (oi te):=by
 refine yH SH hn hl gw (λH' s=>⟨xs,s.ah ha,Qh _⟩) (λi H' hi s=>⟨xs,xs[i],s.ah ha,Qb hi⟩) (λi v x σ H1 H2 hi hv sh s y Q k=>?_) hd
 obtain ⟨e,y⟩:=y
 subst e
 exact hs i x v σ _ (y xs (s.ah ha)) hv sh s Q k
theorem aDP (SH:St->Prop) (hn:n<=1000) (hl:vs.length=n) (gw:SH (d7 own fr σ)) (hs:∀ i v σ H1,i < n->vs[i]?=some v->SH σ->aD H H1->∀ Q:V->St->Hp->Prop,(∀ az H4,SH az->aD H1 H4->Q v az H4)->g (.int (lo+i)) σ H1 λaz H2=>te az H2 λy H4=>Q y az H4) (hd:∀ H',aD H H'->Qf H' vs) :
  jv (Ao lo n) [] (d7 own fr σ) H (λys _ H=>Qf H ys) g Ah (oi te):=by
 refine yH SH hn hl gw (λH' s=>Qh _) (λi H' hi s=>hi) (λi v x σ H1 H2 hi hv sh s y Q k=>?_) hd
 obtain ⟨e,y⟩:=y
 subst e y
 exact hs i v σ _ hi hv sh s Q k
end
section
variable {bO:List Stmt} {t u:TS}
end
theorem aDQ (hK:X.K=K):Ez X (RZ K):=by subst hK; exact cM
theorem wF (hK:X.K=K):fm X (compareOp .NotIn) (Dd K true):=by subst hK; exact xY
theorem wG (xs:Array Value):slicePick xs none none (some (-1))=xs.toList.reverse.toArray:=by
 unfold slicePick
 have e1:sliceBounds none none (some (-1)) xs.size=((xs.size:Int) - 1,-1,-1):=by simp [sliceBounds]
 rw [e1,<- UY xs]
 congr 1
 show List.filterMap (λx=>xs[x]?) (sliceRange ((xs.size:Int) - 1) (-1) (-1))=_
 have e2:sliceRange ((xs.size:Int) - 1) (-1) (-1)=(List.range xs.size).map λ(k:Nat)=>((xs.size:Int) - 1+(k:Int)*(-1)).toNat:=by
  unfold sliceRange
  rw [if_neg (by decide)]
  have e3:(if (xs.size:Int) - 1 > -1 then ((xs.size:Int) - 1 - -1 - -1 - 1) / (- -1) else 0).toNat=xs.size:=by
   by_cases h0:xs.size=0
   ·rw [h0]; decide
   ·rw [if_pos (by omega),show (- -1:Int)=1 from rfl,Ws]; omega
  show (List.range (if (xs.size:Int) - 1 > -1 then ((xs.size:Int) - 1 - -1 - -1 - 1) / (- -1) else 0).toNat).map _=_
  rw [e3]
  refine List.map_congr_left λk _=>?_
  congr 1
  omega
 rw [e2,Wq]
 rfl
def aHT (K:Rb) (te ts:TE):TE:=λσ H Q=>te σ H λx H1=>ts σ H1 λy H2=>y=.int (-1)/\∃ a xs,x=.ref a/\au K H2 a xs/\∀ p,H2 p=none->Q (.ref p) (upd H2 p (.lst xs.reverse))
theorem aFp {st:Expr} (he:PE X e te) (ig:PE X st ts):PE X (.Subscript e (.Slice none none (some st) p2) pos) (aHT X.K te ts):=by
 intro aa s σ H Q I h
 refine Vi (bh (he aa s σ H _ I h) λv s1 ay=>?_)
 obtain ⟨x,H1,I1,r1,q1⟩:=ay
 refine Mz ?_
 rw [Us]
 refine Rc ?_
 show wpAny _ _ (evalPart none X.env) _ _ s1
 rw [Us]
 refine Rc ?_
 show wpAny _ _ (evalPart (some st) X.env) _ _ s1
 rw [Mm]
 refine bh (ig aa s1 σ H1 _ I1 q1) λWZ s3 ay=>?_
 obtain ⟨y,H3,I3,r3,q3⟩:=ay
 obtain ⟨rfl,a,xs,rfl,hx,q⟩:=q3
 obtain ⟨tk,rfl⟩:=r3
 cases r1
 have I4:Inv X aa σ H3 { s3 with heap:=s3.heap.push { cls:=.type "slice",data:=.fields #[.none,.none,.int (-1) tk] } }:=I3.kept (t':=s3.toks) λb ob q=>Qc _ q
 obtain ⟨ag,r,ht,hz⟩:=I4.list hx
 have hlen:=r.length
 have hg:wpAny (model X.prog X.w) X.A (getItem (.ref a) (.ref s3.heap.objs.size)) (EP X aa σ Q) X.xe { s3 with heap:=s3.heap.push { cls:=.type "slice",data:=.fields #[.none,.none,.int (-1) tk] } }:=by
  refine Mn ht.isList (Heap.IsSliceOf.new ..) .none .none (.int (-1) tk) (by decide) ?_ (by rw [Qm]; omega)
  rw [wG]
  refine ⟨.ref _,_,I4.laid (t':=s3.toks) (o:=.lst xs.reverse) (λb ob q=>Qc _ q) (Qh _) ?_,rfl,q _ (I4.ax.fresh (Qh _))⟩
  exact ⟨by rw [Ye]; exact hz,ag.reverse,0,r.reverse,Qj _ rfl⟩
 show wpAny (model X.prog X.w) X.A (subscriptTail e (.Slice none none (some st) p2) (.ref a) (.ref s3.heap.objs.size)) (EP X aa σ Q) X.xe { s3 with heap:=s3.heap.push { cls:=.type "slice",data:=.fields #[.none,.none,.int (-1) tk] } }
 exact tail_any (ops:=[.ref a,.ref s3.heap.objs.size]) ht.isList.typeIs slot_list_getitem.lookup hg (by with_unfolding_all rfl)
section
variable {S:List Addr} {E E':Hp->V->Prop} {σ:St} {t:TA} {tl th:TO}
instance {a:Addr} {xs:List V}:Mo (λH v=>v=.ref a/\aq K (Vw S H) a xs):=⟨λe h=>⟨h.1,(Vw.same e).ah h.2⟩⟩
end
section
variable {XM Fl:Expr} {it acc:Value} {env:Env}
end
section
variable {XM Fl:Expr} {wi WV:TI} {g2:TG}
end
section
variable {own:Nat} {g2:TG} {WV:TI} {σ:St}
end
theorem aCT (bs:List Bool) (tr:Nat->Bool) (h:∀ i b,bs[i]?=some b->tr i=b):(List.range bs.length).any tr=bs.any id:=by
 rw [Xl,Xg,Xg]
 constructor
 ·rintro ⟨i,hi,q⟩
  have wg:=Zg.mp hi
  rw [h i _ (Qb wg)] at q
  exact ⟨_,Yy wg,q⟩
 ·rintro ⟨b,hb,q⟩
  obtain ⟨i,hi⟩:=Wi hb
  exact ⟨i,Zg.mpr (Qa.mp hi).1,by rw [h i b hi]; exact q⟩
theorem kZ (hc:X.calm=true):eT X (.builtin "any") (λxs H Q=>∃ (p:Addr) (bs:List Bool),xs = [.ref p]/\au X.K H p (bs.map V.bl)/\Q (.bl (bs.any id)) H):=by
 intro aa s σ H xs us Q I r h
 obtain ⟨p,bs,rfl,hx,q⟩:=h
 obtain ⟨u,rfl,rx⟩:=iA r
 cases rx
 obtain ⟨ag,rv,pl,hz⟩:=I.list hx
 have hl:=rv.length
 rw [Qd] at hl
 have bw:p < s.heap.objs.size:=by obtain ⟨o,n,e,_⟩:=pl; exact Qo e
 refine call_any_walk (Uk pl.isList ?_)
 refine ⟨s.heap.objs.size,_,_,_,_,_,λi=>(bs[i]?).getD false,rfl,Walks.list (A:=X.A.in1) (I.ok.hd hc) s.heap.objs.size p (Qy bw) ag.toArray,⟨⟨_,Qj _ rfl,rfl,rfl⟩,pl.isList.push _⟩,?_,λh' tk hk=>?_⟩
 ·intro i v s' Q' E' hP DN
  have r6:ag[i]?=some v:=by simpa using hP
  have hi:i < bs.length:=by rw [hl]; exact (Qa.mp r6).1
  obtain ⟨w,hw,fu⟩:=rv.get (i:=i) (x:=.bl bs[i]) (by rw [Qi,Qb hi]; rfl)
  rw [hw] at r6
  cases r6
  cases fu
  have e:(bs[i]?).getD false=bs[i]:=by rw [Qb hi]; rfl
  rw [<- e]
  exact Td DN
 ·have e:(List.range ag.toArray.size).any (λi=>(bs[i]?).getD false)=bs.any id:=by
   rw [Qm,<- hl]
   exact aCT bs _ λi b hb=>by rw [hb]; rfl
  rw [e]
  refine ⟨.bl _,H,I.kept (h':=h') λb o e=>hk b o ?_ (Qc _ e),rfl,q⟩
  intro z
  have z':b=s.heap.objs.size:=by simpa using z
  exact Jl _ (z' ▸ Qo e)
section
variable [DecidableEq κ]
def bW (kvs:List (κ×V)) (k:κ):Option V:=(kvs.find? λkv=>decide (kv.1=k)).map (·.2)
def eQ (kvs:List (κ×V)) (k:κ) (v:V):List (κ×V) :=
 if (kvs.any λkv=>decide (kv.1=k))=true then kvs.map (λkv=>if kv.1=k then (kv.1,v) else kv) else kvs++[(k,v)]
def qB (kvs:List (κ×V)) (k:κ):List (κ×V):=kvs.filter λkv=>decide (kv.1≠k)
theorem aDR {k:κ}:bW ([]:List (κ×V)) k=none:=rfl
theorem dP {p:κ×V} {r:List (κ×V)} {k:κ} (e:p.1=k):bW (p::r) k=some p.2:=by simp [bW,Zb,e]
theorem cP {p:κ×V} {r:List (κ×V)} {k:κ} (e:¬ p.1=k):bW (p::r) k=bW r k:=by simp [bW,Zb,e]
theorem iE (k:κ):∀ kvs:List (κ×V),(kvs.any λkv=>decide (kv.1=k))=(bW kvs k).isSome
 | []=>rfl
 | p::r=>by
  rw [Yb]
  by_cases e:p.1=k
  ·simp only [dP e,decide_eq_true e,Bool.true_or,Wr]
  ·rw [cP e,decide_eq_false e,Bool.false_or]; exact iE k r
theorem UT (k j:κ) (y:V):∀ kvs:List (κ×V),bW (kvs.map λkv=>if kv.1=k then (kv.1,y) else kv) j=(bW kvs j).map λx=>if j=k then y else x
 | []=>rfl
 | p::r=>by
  have ih:=UT k j y r
  rw [Qz]
  by_cases h:p.1=k
  ·rw [if_pos h]
   by_cases e:p.1=j
   ·rw [dP (p:=(p.1,y)) e,dP e,Xe,if_pos (e.symm.trans h)]
   ·rw [cP (p:=(p.1,y)) e,cP e,ih]
  ·rw [if_neg h]
   by_cases e:p.1=j
   ·rw [dP (p:=p) e,dP e,Xe,if_neg (λz=>h (e.trans z))]
   ·rw [cP (p:=p) e,cP e,ih]
theorem rG (k j:κ) (y:V):∀ kvs:List (κ×V),bW kvs k=none->bW (kvs++[(k,y)]) j=if j=k then some y else bW kvs j
 | [],_=>by
  by_cases e:k=j
  ·rw [if_pos e.symm]; exact dP (p:=(k,y)) e
  ·rw [if_neg (λz=>e z.symm)]; exact cP (p:=(k,y)) e
 | p::r,hn=>by
  rw [List.cons_append]
  have hk:¬ p.1=k:=λz=>by rw [dP z] at hn; cases hn
  rw [cP hk] at hn
  have ih:=rG k j y r hn
  by_cases e:p.1=j
  ·rw [dP e,dP e,if_neg (λz=>hk (e.trans z))]
  ·rw [cP e,cP e,ih]
theorem uC (kvs:List (κ×V)) (k j:κ) (y:V):bW (eQ kvs k y) j=if j=k then some y else bW kvs j:=by
 unfold eQ
 by_cases a:(kvs.any λkv=>decide (kv.1=k))=true
 ·rw [if_pos a,UT]
  rw [iE] at a
  by_cases e:j=k
  ·obtain ⟨x,hx⟩:=Yp.mp a
   rw [if_pos e,e,hx,Xe,if_pos rfl]
  ·rw [if_neg e]
   cases bW kvs j with
   | none=>rfl
   | some x=>rw [Xe,if_neg e]
 ·rw [if_neg a]
  refine rG k j y kvs ?_
  rw [iE] at a
  cases q:bW kvs k with
  | none=>rfl
  | some x=>rw [q] at a; exact (a rfl).elim
theorem gJ (kvs:List (κ×V)) (k:κ) (v:V):(eQ kvs k v).length<=kvs.length+1:=by
 unfold eQ
 split
 ·rw [Qd]; omega
 ·rw [Qg,Jo,List.length_nil]; omega
theorem jW {kvs:List (κ×V)} {k:κ} (v:V) (h:bW kvs k=none):eQ kvs k v=kvs++[(k,v)]:=by
 unfold eQ
 rw [iE,h]
 exact if_neg (by decide)
theorem mI.e_ {o:Option V} {u:Option Value} (r:mI o u):o.isSome=u.isSome:=by
 cases o with
 | none => cases u with
   | none=>rfl
   | some _=>exact (show False from r).elim
 | some _ => cases u with
   | none=>exact (show False from r).elim
   | some _=>rfl
theorem KV.val {kvs:List (κ×V)} {vs:List (κ×Value)} (r:KV kvs vs) (k:κ):mI (bW kvs k) (valueAt vs k):=by
 unfold KV at r
 induction r with
 | nil=>exact True.intro
 | @cons p q ps qs h t ih =>
  obtain ⟨h1,h2⟩:=h
  by_cases e:p.1=k
  ·have e':q.1=k:=h1.symm.trans e
   have b:valueAt (q::qs) k=some q.2:=by simp [valueAt,Zb,e']
   rw [dP e,b]; exact h2
  ·have e':¬ q.1=k:=λz=>e (h1.trans z)
   have b:valueAt (q::qs) k=valueAt qs k:=by simp [valueAt,Zb,e']
   rw [cP e,b]; exact ih
theorem KV.any {kvs:List (κ×V)} {vs:List (κ×Value)} (r:KV kvs vs) (k:κ):(kvs.any λkv=>decide (kv.1=k))=vs.any λkv=>decide (kv.1=k):=by
 unfold KV at r
 induction r with
 | nil=>rfl
 | cons h t ih=>rw [Yb,Yb,ih,h.1]
theorem KV.BF {kvs:List (κ×V)} {vs:List (κ×Value)} (r:KV kvs vs) (k:κ) (ry:bQ y u) :
  KV (kvs.map λkv=>if kv.1=k then (kv.1,y) else kv) (vs.map λkv=>if kv.1=k then (kv.1,u) else kv):=by
 unfold KV at r ⊢
 induction r with
 | nil=>exact .nil
 | @cons p q ps qs h t ih =>
  rw [Qz,Qz]
  refine .cons ?_ ih
  obtain ⟨h1,h2⟩:=h
  by_cases e:p.1=k
  ·rw [if_pos e,if_pos (h1.symm.trans e)]; exact ⟨h1,ry⟩
  ·rw [if_neg e,if_neg (λz=>e (h1.trans z))]; exact ⟨h1,h2⟩
theorem KV.put {kvs:List (κ×V)} {vs:List (κ×Value)} (r:KV kvs vs) (k:κ) (ry:bQ y u):KV (eQ kvs k y) (stored vs k u):=by
 unfold eQ stored
 rw [r.any k]
 by_cases e:(vs.any λkv=>decide (kv.1=k))=true
 ·rw [if_pos e,if_pos e]; exact r.BF k ry
 ·rw [if_neg e,if_neg e]; exact Paired.snoc r ⟨rfl,ry⟩
theorem KV.drop {kvs:List (κ×V)} {vs:List (κ×Value)} (r:KV kvs vs) (k:κ):KV (qB kvs k) (without vs k):=by
 unfold KV at r ⊢
 unfold qB without
 induction r with
 | nil=>exact .nil
 | @cons p q ps qs h t ih =>
  obtain ⟨h1,h2⟩:=h
  rw [Zy,Zy]
  by_cases e:p.1=k
  ·have a:¬ decide (p.1≠k)=true:=by simp [e]
   have b:¬ decide (q.1≠k)=true:=by simp [h1.symm.trans e]
   rw [if_neg a,if_neg b]; exact ih
  ·have e':¬ q.1=k:=λz=>e (h1.trans z)
   have a:decide (p.1≠k)=true:=by simp [e]
   have b:decide (q.1≠k)=true:=by simp [e']
   rw [if_pos a,if_pos b]; exact .cons ⟨h1,h2⟩ ih
theorem KV.keys {kvs:List (κ×V)} {vs:List (κ×Value)} (r:KV kvs vs):kvs.map (·.1)=vs.map (·.1):=by
 unfold KV at r
 induction r with
 | nil=>rfl
 | cons h t ih=>rw [Qz,Qz,ih,h.1]
theorem KV.length {kvs:List (κ×V)} {vs:List (κ×Value)} (r:KV kvs vs):kvs.length=vs.length:=Paired.length r
theorem aDS (kvs:List (κ×V)) (k:κ):(qB kvs k).length<=kvs.length:=Zd _ _
end
theorem qC {k:Key} (r:bQ (kV k) u):(bF P w).is k u=true:=by
 cases k with
 | inl i=>obtain ⟨t,e⟩:=(show ∃ t,u=Value.int i t from r); subst e; exact zW P w i t
 | inr x=>obtain ⟨t,e⟩:=(show ∃ t,u=Value.str x t from r); subst e; exact zX P w x t
theorem wY:∀ {ks:List Key} {us:List Value},bH (ks.map kV) us->ItemsAre (bF P w) ks us
 | [],_,r=>by rw [Xt] at r; cases r; exact .nil
 | k::ks,_,r=>by
  rw [Qz] at r
  cases r with
  | cons h t=>exact .cons (qC h) (wY t)
abbrev KT (H:Hp):List (List Key×V)->List (List Key×Addr×Value)->Prop:=Paired λp q=>p.1=q.1/\H q.2.1=some (.tup (p.1.map kV))/\bQ p.2 q.2.2
theorem KT.val {kvs:List (List Key×V)} {xs:List (List Key×Addr×Value)} (r:KT H kvs xs) (k:List Key):mI (bW kvs k) ((atKey xs k).map (·.2)):=by
 induction r with
 | nil=>exact True.intro
 | @cons p q ps qs h t ih =>
  obtain ⟨h1,_,h2⟩:=h
  by_cases e:p.1=k
  ·have e':q.1=k:=h1.symm.trans e
   have b:atKey (q::qs) k=some q.2:=by simp [atKey,Zb,e']
   rw [dP e,b]; exact h2
  ·have e':¬ q.1=k:=λz=>e (h1.trans z)
   have b:atKey (q::qs) k=atKey qs k:=by simp [atKey,Zb,e']
   rw [cP e,b]; exact ih
theorem KT.BF {kvs:List (List Key×V)} {xs:List (List Key×Addr×Value)} (r:KT H kvs xs) (k:List Key) (ry:bQ y u) :
  KT H (kvs.map λkv=>if kv.1=k then (kv.1,y) else kv) (xs.map (putAt k u)):=by
 induction r with
 | nil=>exact .nil
 | @cons p q ps qs h t ih =>
  rw [Qz,Qz]
  refine .cons ?_ ih
  obtain ⟨h1,h2,h3⟩:=h
  unfold putAt
  by_cases e:p.1=k
  ·rw [if_pos e,if_pos (h1.symm.trans e)]; exact ⟨h1,h2,ry⟩
  ·rw [if_neg e,if_neg (λz=>e (h1.trans z))]; exact ⟨h1,h2,h3⟩
theorem KT.put {kvs:List (List Key×V)} {xs:List (List Key×Addr×Value)} (r:KT H kvs xs) (k:List Key) {b:Addr} (hb:H b=some (.tup (k.map kV))) (ry:bQ y u) :
  KT H (eQ kvs k y) (storedH xs k b u):=by
 have e:(kvs.any λkv=>decide (kv.1=k))=(atKey xs k).isSome:=by
  rw [iE,(r.val k).e_,Yr]
 unfold eQ storedH
 rw [e]
 by_cases q:(atKey xs k).isSome=true
 ·rw [if_pos q,if_pos q]; exact r.BF k ry
 ·rw [if_neg q,if_neg q]; exact Paired.snoc r ⟨rfl,hb,ry⟩
theorem KT.keeps {kvs:List (List Key×V)} {xs:List (List Key×Addr×Value)} (r:KT H kvs xs) (ht:∀ b ys,H b=some (.tup ys)->H' b=some (.tup ys)):KT H' kvs xs :=
 Paired.EL r λ_ _ z=>⟨z.1,ht _ _ z.2.1,z.2.2⟩
section
variable {a:Addr}
theorem Sr {u:HO} (ok:gi P w H h) (e:Rd H a u):bR P w H h a u:=e.ok ok
theorem jC (ok:gi P w H h) (e:Rd H a (.dK kvs)):kvs.length<=sizeLine/\(a==sysModules)=false/\∃ vs,KV kvs vs/\h.DictOf (bF P w) a vs :=
 show bR P w H h a (.dK kvs) from Sr ok e
theorem Lf (ok:gi P w H h) (e:H a=some (.dK kvs)):kvs.length<=sizeLine/\(a==sysModules)=false/\∃ vs,KV kvs vs/\h.DictOf (bF P w) a vs:=jC ok (.inl e)
theorem uD {ks:List Key} (ok:gi P w H h) (e:H a=some (.tup (ks.map kV))):(tupleKind (bF P w)).is h ks a:=by
 obtain ⟨_,ag,n,r,e1⟩:=(show bR P w H h a (.tup (ks.map kV)) from ok a _ e)
 exact ⟨_,ag.toArray,n,e1,rfl,rfl,by simpa using wY r⟩
theorem wZ {kvs:List (List Key×V)} (ok:gi P w H h) (e:Rd H a (.dT kvs)):kvs.length<=sizeLine/\(a==sysModules)=false /\
  ∃ xs,KT H kvs xs/\h.DictOfH (tupleKind (bF P w)) a xs:=by
 obtain ⟨z,y,xs,r,o,es,ep,h1,h2,h3,h4,h5⟩:=(show bR P w H h a (.dT kvs) from Sr ok e)
 refine ⟨z,y,xs,r,o,es,ep,h1,h2,h3,h4,λx hx=>?_,h5⟩
 have all:∀ {l:List (List Key×V)} {m:List (List Key×Addr×Value)},KT H l m->∀ x∈m,(tupleKind (bF P w)).is h x.1 x.2.1:=by
  intro l m q
  induction q with
  | nil=>intro x hx; exact nomatch hx
  | @cons p q ps qs hq t ih =>
   intro x hx
   rcases Ql.mp hx with e | hx
   ·subst e
    exact uD ok (by rw [<- hq.1]; exact hq.2.1)
   ·exact ih x hx
 exact all r x hx
theorem aHU {kvs:List (List Key×V)} (ok:gi P w H h) (e:H a=some (.dT kvs)):kvs.length<=sizeLine/\(a==sysModules)=false /\
  ∃ xs,KT H kvs xs/\h.DictOfH (tupleKind (bF P w)) a xs:=wZ ok (.inl e)
end
def kF (H:Hp) (a:Addr) (y:V) (r:Option V):Prop :=
 (∃ kvs k,Rd H a (.dK kvs)/\y=kV k/\r=bW kvs k)∨∃ kvs k b,Rd H a (.dT kvs)/\y=.ref b/\H b=some (.tup (k.map kV))/\r=bW kvs k
def qF (H:Hp) (a:Addr) (y v:V) (H':Hp):Prop :=
 (∃ kvs k,H a=some (.dK kvs)/\y=kV k/\kvs.length < sizeLine/\H'=upd H a (.dK (eQ kvs k v))) ∨
 ∃ kvs k b,H a=some (.dT kvs)/\y=.ref b/\H b=some (.tup (k.map kV))/\kvs.length < sizeLine/\H'=upd H a (.dT (eQ kvs k v))
theorem kF.k {a:Addr} {k:Key} (e:H a=some (.dK kvs)):kF H a (kV k) (bW kvs k):=.inl ⟨kvs,k,.inl e,rfl,rfl⟩
theorem qF.k {a:Addr} {k:Key} (e:H a=some (.dK kvs)) (hl:kvs.length < sizeLine):qF H a (kV k) v (upd H a (.dK (eQ kvs k v))):=.inl ⟨kvs,k,e,rfl,hl,rfl⟩
section
variable {σ:St} {a:Addr} {r:Value} {o:Option V}
theorem Inv.big (I:Inv X aa σ H s):sysModules < s.heap.objs.size:=by
 have h:mainGlobals < s.heap.objs.size:=(I.mod.glob.keeps I.bk).lt
 exact Yg (by decide) h
theorem aCU (hu:A.units+1 < cLine) (I:Inv X aa σ H s) (g:kF H a y (some v)) (ry:bQ y u) (h:∀ w' s',Inv X aa σ H s'->bQ v w'->Q w' s') :
  wpAny (model X.prog X.w) A (getItem (.ref a) u) Q E s:=by
 rcases g with ⟨kvs,k,e,ey,l⟩ | ⟨kvs,k,b,e,ey,eb,l⟩
 ·subst ey
  obtain ⟨z,hd,vs,rel,dd⟩:=jC I.ax e
  obtain ⟨w',hw,fu⟩:=mI.some_of (v:=v) (o:=valueAt vs k) (by rw [l]; exact rel.val k)
  exact wpAny_getItem_of (qC ry) dd.mapOf hw (h w' _ (I.tok _) fu)
 ·subst ey
  cases (show u=Value.ref b from ry)
  obtain ⟨z,hd,xs,rel,dd⟩:=wZ I.ax e
  obtain ⟨w',hw,fu⟩:=mI.some_of (v:=v) (o:=(atKey xs k).map (·.2)) (by rw [l]; exact rel.val k)
  obtain ⟨p,hp,ot⟩:=Qs.mp hw
  refine wpAny_getItem_heap (Ux hu) (uD I.ax eb) dd hp ?_
  rw [ot]
  exact h w' _ (I.tok _) fu
theorem aIC (hu:A.units+1 < cLine) (I:Inv X aa σ H s) (g:kF H a y o) (ry:bQ y u) (h:∀ s',Inv X aa σ H s'->Q (.bool o.isSome) s') :
  wpAny (model X.prog X.w) A (compareOp .In u (.ref a)) Q E s:=by
 rcases g with ⟨kvs,k,e,ey,l⟩ | ⟨kvs,k,b,e,ey,eb,l⟩
 ·subst ey
  obtain ⟨z,hd,vs,rel,dd⟩:=jC I.ax e
  refine wpAny_in_of (qC ry) hd dd.mapOf ?_
  rw [<- (rel.val k).e_,<- l]
  exact h _ (I.tok _)
 ·subst ey
  cases (show u=Value.ref b from ry)
  obtain ⟨z,hd,xs,rel,dd⟩:=wZ I.ax e
  refine wpAny_in_heap (Ux hu) (uD I.ax eb) hd dd ?_
  have q:=(rel.val k).e_
  rw [Yr] at q
  rw [<- q,<- l]
  exact h _ (I.tok _)
theorem aFq (hu:A.units+1 < cLine) (I:Inv X aa σ H s) (g:kF H a y o) (ry:bQ y u) (h:∀ s',Inv X aa σ H s'->Q (.bool (!o.isSome)) s') :
  wpAny (model X.prog X.w) A (compareOp .NotIn u (.ref a)) Q E s:=by
 rcases g with ⟨kvs,k,e,ey,l⟩ | ⟨kvs,k,b,e,ey,eb,l⟩
 ·subst ey
  obtain ⟨z,hd,vs,rel,dd⟩:=jC I.ax e
  refine wpAny_notIn_of (qC ry) hd dd.mapOf ?_
  rw [<- (rel.val k).e_,<- l]
  exact h _ (I.tok _)
 ·subst ey
  cases (show u=Value.ref b from ry)
  obtain ⟨z,hd,xs,rel,dd⟩:=wZ I.ax e
  refine wpAny_notIn_heap (Ux hu) (uD I.ax eb) hd dd ?_
  have q:=(rel.val k).e_
  rw [Yr] at q
  rw [<- q,<- l]
  exact h _ (I.tok _)
theorem qG {ob:HO} (I:Inv X aa σ H s) (mu:Bv (H a)) (hs:Heap.SameBut a s.heap h') (he:∃ q,h'.get? a=some q) (new:bR X.prog X.w (upd H a ob) h' a ob) :
  Inv X aa σ (upd H a ob) { s with heap:=h',toks:=t' } :=
 I.write (x:=a) (e:=a) mu (.inl rfl) (λb q hb z=>(hs.2 b hb).trans z) he new
theorem uE {vs:List (Key×Value)} (z:kvs.length<=sizeLine) (hd:(a==sysModules)=false) (rel:KV kvs vs) (dd:h'.DictOf (bF P w) a vs) :
  bR P w H' h' a (.dK kvs):=⟨z,hd,vs,rel,dd⟩
theorem aCV {Q:Unit->Shared->Prop} (hu:A.units+1 < cLine) (I:Inv X aa σ H s) (g:qF H a y v H') (ry:bQ y u) (rv:bQ v r) (h:∀ s',Inv X aa σ H' s'->Q () s') :
  wpAny (model X.prog X.w) A (setItem (.ref a) u r) Q E s:=by
 rcases g with ⟨kvs,k,e,ey,l,eH⟩ | ⟨kvs,k,b,e,ey,eb,l,eH⟩
 ·subst ey eH
  obtain ⟨z,hd,vs,rel,dd⟩:=Lf I.ax e
  have hz:vs.length<=sizeLine:=by rw [<- rel.length]; exact z
  have hl:(eQ kvs k v).length<=sizeLine:=by have:=gJ kvs k v; omega
  refine wpAny_setItem_pairs (hsz:=hz) (qC ry) dd λh' ly hs=>h _ ?_
  have he:∃ q,h'.get? a=some q:=let ⟨q,_,_,hq,_⟩:=ly; ⟨q,hq⟩
  exact qG I (by rw [e]; exact True.intro) hs he (uE hl hd (rel.put k rv) ly)
 ·subst ey eH
  cases (show u=Value.ref b from ry)
  obtain ⟨z,hd,xs,rel,dd⟩:=aHU I.ax e
  have hz:xs.length<=sizeLine:=by rw [<- Paired.length rel]; exact z
  have hl:(eQ kvs k v).length<=sizeLine:=by have:=gJ kvs k v; omega
  refine wpAny_setItem_heap (hsz:=hz) (Ux hu) (uD I.ax eb) dd λh' ly hs=>h _ ?_
  obtain ⟨q,es,ep,hq,h2,h3,h4,_,h5⟩:=ly
  refine qG I (by rw [e]; exact True.intro) hs ⟨q,hq⟩ ⟨hl,hd,_,(rel.put k eb rv).keeps λc ys ec=>?_,q,es,ep,hq,h2,h3,h4,h5⟩
  rw [aF (aHu ec e (λz=>nomatch z))]
  exact ec
end
section
variable {σ:St} {a:Addr} {k:Key}
theorem aHV {more:List Value} (I:Inv X aa σ H s) (e:H a=some (.dK kvs)) (ry:bQ (kV k) u) (l:bW kvs k=some v) (hm:more = []∨∃ x,more = [x]) (h:∀ w' s',Inv X aa σ (upd H a (.dK (qB kvs k))) s'->bQ v w'->Q w' s'):wpAny (model X.prog X.w) A (call (.builtin "dict.pop") (.ref a::u::more)) Q E s:=by
 obtain ⟨z,hd,vs,rel,dd⟩:=Lf I.ax e
 obtain ⟨w',hw,fu⟩:=mI.some_of (v:=v) (o:=valueAt vs k) (by rw [<- l]; exact rel.val k)
 have hp:(keyPart u).isSome=true:=by
  cases k with
  | inl i=>obtain ⟨t,q⟩:=(show ∃ t,u=Value.int i t from ry); subst q; rfl
  | inr x=>obtain ⟨t,q⟩:=(show ∃ t,u=Value.str x t from ry); subst q; rfl
 have ha:argsOk "dict.pop" ⟨.ref a::u::more,[]⟩:=by
  rcases hm with q | ⟨x,q⟩
  ·subst q; exact PySem.F.args_dict_pop_2 _ _
  ·subst q; exact PySem.F.args_dict_pop_3 _ _ _
 refine call_meetsIn Ma dd.typeIs PySem.F.entry_dict_pop ha (meets_dict_pop_there (bF X.prog X.w) a (qC ry) more hm hp)
  ⟨vs,w',dd,by rw [<- rel.length]; exact z,hw,λh' ly hs=>h w' _ ?_ fu⟩
 have he:∃ q,h'.get? a=some q:=let ⟨q,_,_,hq,_⟩:=ly; ⟨q,hq⟩
 exact qG I (by rw [e]; exact True.intro) hs he (uE (Ja (aDS kvs k) z) hd (rel.drop k) ly)
theorem aHW (I:Inv X aa σ H s) (e:Rd H a (.dK kvs)) (h:∀ t s',Inv X aa σ H s'->Q (.int kvs.length t) s'):wpAny (model X.prog X.w) A (call (.builtin "len") [.ref a]) Q E s:=by
 obtain ⟨z,hd,vs,rel,dd⟩:=jC I.ax e
 refine call_len_dict hd dd (by rw [<- rel.length]; rw [Rf] at z; omega) ?_
 rw [<- rel.length]
 exact h _ _ (I.tok _)
end
def RV (i:Expr):Prop:=∀ ov iv,subscripted i false ov iv=operate [ov,iv] (getItem ov iv)
theorem aFr {env:Env} {slice:Expr} {id:String} (hl:typeLookup (.type T) "__getitem__" = pure (some (.builtin id))) (hs:RV slice) (h:wpAny (model prog w) A (eval value env) (λo cb=>wpAny (model prog w) A (eval slice env) (λi jf=>jf.TypeIs o T/\wpAny (model prog w) A (getItem o i) Q E jf) E cb) E s) :
  wpAny (model prog w) A (eval (.Subscript value slice pos) env) Q E s:=by
 refine Vi (Rj h (λo cb ka=>Rj ka (λi jf Bf=>?_) λ_ _ x=>x) λ_ _ x=>x)
 obtain ⟨hT,Bf⟩:=Bf
 unfold subscriptTail
 refine Ra ?_
 rw [getitemInPython_of_ne hT.not_modules]
 refine Ra (wpAny_specialOf hT hl ?_)
 have fin:wpAny (model prog w) A (subscripted slice false o i) (λr zf=>wpAny (model prog w) A (letTemporaryGo value o r >>= λ_=>pure r) Q E zf) E jf:=by
  rw [hs o i]
  exact wpAny_operating (Rj Bf (λr zf Gr=>Ra (wpAny_letTemporaryGo (Rc Gr))) λ_ _ x=>x)
 first
  | exact Rc (Ra fin)
  | exact Ra (Rc (Ra fin))
  | exact Ra fin
theorem aAz {σ:St} {a:Addr} {o:Option V} (I:Inv X aa σ H s) (g:kF H a y o):s.TypeIs (.ref a) "dict" := by
 rcases g with ⟨kvs,k,e,_,_⟩ | ⟨kvs,k,b,e,_,_,_⟩
 ·obtain ⟨_,_,vs,_,dd⟩:=jC I.ax e
  exact dd.typeIs
 ·obtain ⟨_,_,xs,_,dd⟩:=wZ I.ax e
  exact dd.typeIs
def Ej (td ty:TE):TE:=λσ H Q=>td σ H λx H1=>ty σ H1 λy H2=>∃ a v,x=.ref a/\kF H2 a y (some v)/\Q v H2
def aID (ty td:TE):TE:=λσ H Q=>ty σ H λy H1=>td σ H1 λx H2=>∃ a o,x=.ref a/\kF H2 a y o/\Q (.bl o.isSome) H2
def aFs (ty td:TE):TE:=λσ H Q=>ty σ H λy H1=>td σ H1 λx H2=>∃ a o,x=.ref a/\kF H2 a y o/\Q (.bl (!o.isSome)) H2
def aHY (td ty tv:TE):TS:=λD σ H=>tv σ H λv H1=>td σ H1 λx H2=>ty σ H2 λy H3=>∃ a H4,x=.ref a/\qF H3 a y v H4/\D.nx σ H4
section
variable {o i:Expr} {ty:TE}
theorem aQ (hu:X.A.units+1 < cLine) (ho:PE X o td) (hi:PE X i ty) (hs:RV i):PE X (.Subscript o i pos) (Ej td ty):=by
 intro aa s σ H Q I h
 refine aFr PySem.F.slot_dict_getitem.lookup hs (bh (ho aa s σ H _ I h) λu s1 ⟨x,H1,I1,rx,q1⟩=>bh (hi aa s1 σ H1 _ I1 q1) λiv s2 ay=>?_)
 obtain ⟨y,H2,I2,ry,a,v,ex,g,q2⟩:=ay
 subst ex
 obtain rfl:u=Value.ref a:=rx
 exact ⟨aAz I2 g,aCU hu I2 g ry λw' s3 I3 fu=>⟨v,H2,I3,fu,q2⟩⟩
theorem aG6 (hu:X.A.units+1 < cLine) (hi:PE X i ty) (ho:PE X o td):PC X .In i o (aID ty td):=by
 intro aa s σ H Q I h
 refine bh (hi aa s σ H _ I h) λiv s1 ⟨y,H1,I1,ry,q1⟩=>bh (ho aa s1 σ H1 _ I1 q1) λu s2 ay=>?_
 obtain ⟨x,H2,I2,rx,a,ov,ex,g,q2⟩:=ay
 subst ex
 obtain rfl:u=Value.ref a:=rx
 exact aIC hu I2 g ry λs3 I3=>⟨.bl ov.isSome,H2,I3,rfl,q2⟩
theorem nQ (hu:X.A.units+1 < cLine) (hi:PE X i ty) (ho:PE X o td):PC X .NotIn i o (aFs ty td):=by
 intro aa s σ H Q I h
 refine bh (hi aa s σ H _ I h) λiv s1 ⟨y,H1,I1,ry,q1⟩=>bh (ho aa s1 σ H1 _ I1 q1) λu s2 ay=>?_
 obtain ⟨x,H2,I2,rx,a,ov,ex,g,q2⟩:=ay
 subst ex
 obtain rfl:u=Value.ref a:=rx
 exact aFq hu I2 g ry λs3 I3=>⟨.bl (!ov.isSome),H2,I3,rfl,q2⟩
theorem iY (hu:X.A.units+1 < cLine) (ho:PE X o td) (hi:PE X i ty) (hv:PE X value tv) (hs:swapsWith value (some (.Subscript o i pos')) pos.line X.env=pure false) :
  PS X (.Assign [.Subscript o i pos'] value pos) (aHY td ty tv):=by
 intro aa s σ H D I h
 refine wpAny_Assign_Subscript (bh (hv aa s σ H _ I h) λr s1 ⟨v,H1,I1,rv,q1⟩=>bh (ho aa s1 σ H1 _ I1 q1) λu s2 ⟨x,H2,I2,rx,q2⟩=>bh (hi aa s2 σ H2 _ I2 q2) λiv s3 ay=>?_) hs
 obtain ⟨y,H3,I3,ry,a,H4,ex,g,q3⟩:=ay
 subst ex
 obtain rfl:u=Value.ref a:=rx
 exact aCV hu I3 g ry rv λs4 I4=>⟨σ,H4,I4,q3⟩
end
theorem uF (h:Heap) (hb:sysModules < h.objs.size):bR P w H (h.push { cls:=.type "dict",data:=.dict #[] }) h.objs.size (.dK []) :=
 ⟨Jt _,beq_eq_false_iff_ne.mpr (Ne.symm (Qy hb)),[],.nil,Heap.DictOf.new h⟩
def S5:TE:=λ_ H Q=>∀ p,H p=none->Q (.ref p) (upd H p (.dK []))
theorem jX:PE X (.Dict [] [] pos) S5:=λaa s σ H Q I h =>
 wpAny_Dict_empty ⟨.ref s.heap.objs.size,_,I.laid (a:=s.heap.objs.size) (o:=.dK []) (t':=s.toks) (λ_ _ q=>Qc _ q) (Qh _) (uF s.heap I.big),rfl,h _ (I.ax.fresh (Qh _))⟩
def NF (H0:Hp) (a:Addr):Prop:=∀ o u,H0 a≠some (.bq o u)
section
variable {σ:St} {a:Addr}
theorem Inv.freeze (I:Inv X aa σ H s) (e:H a=some (.dK kvs)) (ho:s.heap.get? a=some o):Inv X aa σ (upd H a (.bq o (.dK kvs))) s:=by
 have m:Bv (H a):=by rw [e]; trivial
 have q:bR X.prog X.w H s.heap a (.dK kvs):=I.ax a _ e
 exact I.write (x:=a) (e:=a) (t':=s.toks) m (.inl rfl) (λb u _ z=>z) ⟨o,ho⟩ ⟨ho,q⟩
theorem Inv.nf (I:Inv X aa σ H s) (e:H a=some (.dK kvs)):NF X.t_ a:=λo u z=>by
 have:=I.base.gm a o u z
 rw [e] at this; cases this
theorem Inv.EJ (I:Inv X aa σ H s) (e:H a=some (.bq o (.dK kvs))) (nf:NF X.t_ a):Inv X aa σ (upd H a (.dK kvs)) s:=by
 have ne:∀ b,H b=none->b≠a:=λb n z=>by rw [z,e] at n; cases n
 have nt:∀ b xs,H b=some (.tup xs)->b≠a:=λb xs n z=>by rw [z,e] at n; cases n
 have no:∀ b x,H b=some (.own x)->b≠a:=λb xs n z=>by rw [z,e] at n; cases n
 obtain ⟨ho,q⟩:s.heap.get? a=some o/\bR X.prog X.w H s.heap a (.dK kvs):=I.ax a _ e
 have un:Un X.fs X.ex X.t_ (upd H a (.dK kvs)) X.gq.heap s.heap:=by
  refine ⟨I.base.keep,I.base.slot,λb ob q n hx=>?_,I.base.there,λb xs q=>?_,λb ob u q=>?_,λb ps q=>?_⟩
  ·have z:=I.base.free b ob q n hx
   rw [aF (ne b z)]; exact z
  ·have z:=I.base.il b xs q
   rw [aF (nt b xs z)]; exact z
  ·have z:=I.base.gm b ob u q
   have n:b≠a:=λy=>nf ob u (y ▸ q)
   rw [aF n]; exact z
  ·obtain ⟨m,z⟩:=I.base.ip b ps q
   have n:b≠a:=λy=>by rw [y,e] at z; cases z
   exact ⟨m,by rw [aF n]; exact z⟩
 refine ⟨I.ok,I.os,I.bare,un,I.loc,I.cell,?_,λx c h=>?_,λp hp=>?_,λb u h=>?_,I.len⟩
 ·rw [aF (ne _ I.free)]; exact I.free
 ·have z:=I.cy x c h
  rw [aF (ne _ z)]; exact z
 ·obtain ⟨p1,p2,p3⟩:=I.pin p hp
  exact ⟨p1,by rw [aF (ne _ p2)]; exact p2,p3⟩
 ·by_cases hb:b=a
  ·subst hb
   rw [aB] at h
   cases h
   exact bR.d_ q (λ_ _ _ z=>z) (λc z=>by rw [aF (no c _ z)]; exact z) (λc xs z=>by rw [aF (nt c xs z)]; exact z)
  ·rw [aF hb] at h
   exact bR.d_ (I.ax b u h) (λ_ _ _ z=>z) (λc z=>by rw [aF (no c _ z)]; exact z) (λc xs z=>by rw [aF (nt c xs z)]; exact z)
end
def sk (a:Addr) (o:Obj) (kvs:List (Key×V)):It :=
 ⟨λi H=>H a=some (.bq o (.dK kvs))/\i < kvs.length,λi H x H'=>H'=H/\∃ p,kvs[i]?=some p/\x=kV p.1,λi H=>H a=some (.bq o (.dK kvs))/\i=kvs.length⟩
theorem uG {k:Key} (h:(bF P w).is k u=true):bQ (kV k) u:=by
 rcases dQ h with ⟨i,t,rfl,rfl⟩ | ⟨x,t,rfl,rfl⟩
 ·exact ⟨t,rfl⟩
 ·exact ⟨t,rfl⟩
theorem jP {a:Addr} {es:Array DictEntry} {vs:List (Key×Value)} (ho:h.get? a=some o) (hd:o.data=.dict es ep) (d:h.DictOf (bF P w) a vs):h.DictAt (bF P w) a vs ep:=by
 obtain ⟨o',D4,D5,q1,q2,q3,r⟩:=d
 rw [ho] at q1; cases q1
 rw [hd] at q3; cases q3
 exact ⟨o,es,ho,q2,hd,r⟩
theorem aCW (a it:Addr) (o:Obj) (es:Array DictEntry) (ep:Nat) (hd:o.data=.dict es ep) (kvs:List (Key×V)) :
  Turn P w K tg (sk a o kvs) [it] it (λi h=>h.IsKeyIter it a i kvs.length ep) where
 mem:=by simp
 obj:=λi h st b hb=>by
  have e:b=it:=by simpa using hb
  subst e
  obtain ⟨o,e,c,d⟩:=st
  exact ⟨o,e,λv z=>by rw [d] at z; cases z⟩
 keep:=λi h h' st k=>st.at λo e=>k it (by simp) o e
 item:=by
  intro X hP hw hK hc i aa s σ H E I hf st hg
  subst hP hw hK
  obtain ⟨hA,hi⟩:=hg
  obtain ⟨ho,hz,hs,vs,kv,dd⟩:s.heap.get? a=some o/\bR X.prog X.w H s.heap a (.dK kvs):=I.ax a _ hA
  have da:=jP ho hd dd
  have hl:kvs.length=vs.length:=kv.length
  obtain ⟨f0,f1,f2,f3,f4,f5⟩:=hf it (by simp)
  obtain ⟨⟨k,x⟩,hx⟩:∃ p,vs[i]?=some p:=⟨vs[i]'(by omega),by simp⟩
  rw [hl] at st
  refine wpAny_pyNext_dict_item st da hx λkey h' fw n9 sb=>?_
  have I1:Inv X aa σ H { s with heap:=h' }:=I.turned (t':=s.toks) (λb o hb e=>(sb.2 b hb).trans e) f0 f1 f3 f4 f5
  obtain ⟨o',e',c',d'⟩:=id n9
  have hk:kvs[i]?=some (kvs[i]):=Qb hi
  have DA:(kvs[i]).1=k:=by
   have e:=kv.keys
   have e1:(kvs.map (·.1))[i]?=some (kvs[i]).1:=by rw [Qi,hk]; rfl
   have e2:(vs.map (·.1))[i]?=some k:=by rw [Qi,hx]; rfl
   rw [e,e2] at e1
   exact (Option.some.inj e1).symm
  rw [<- hl] at n9
  exact ⟨key,rfl,zZ (s:={ s with heap:=h' }) e' c' d' (by decide) ⟨kV k,H,I1,uG fw,⟨rfl,_,hk,by rw [DA]⟩,n9,λb hb=>(hf b hb).1⟩⟩
 done:=by
  intro X hP hw hK hc i aa s σ H E I hf st hg
  subst hP hw hK
  obtain ⟨hA,hi⟩:=hg
  obtain ⟨ho,hz,hs,vs,kv,dd⟩:s.heap.get? a=some o/\bR X.prog X.w H s.heap a (.dK kvs):=I.ax a _ hA
  have da:=jP ho hd dd
  have hl:kvs.length=vs.length:=kv.length
  obtain ⟨f0,f1,f2,f3,f4,f5⟩:=hf it (by simp)
  rw [hl] at st
  exact wpAny_pyNext_dict_end (I.ok.hd hc) st da (by simp; omega) λh' eb=>⟨rfl,I.turned (t':=s.toks) (λb o hb e=>eb b o hb e) f0 f1 f3 f4 f5⟩
 self:=λ_ _ _ _ _ st h=>wpAny_pyIter_keyiter st h
def aHZ (H0:Hp) (td:TE):TI:=λσ H R=>td σ H λx H1=>∃ a kvs,x=.ref a/\H1 a=some (.dK kvs)/\∀ o,NF H0 a->R (sk a o kvs) (upd H1 a (.bq o (.dK kvs)))
theorem qH {d:Expr} (hl:PE X d td):PI X tg d (aHZ X.t_ td):=by
 intro aa s σ H R I h
 refine bh (hl aa s σ H _ I h) λv s1 ay=>?_
 obtain ⟨x,H1,I1,r1,q1⟩:=ay
 obtain ⟨a,kvs,e,hq,q⟩:=q1
 subst e
 cases r1
 obtain ⟨hz,hs,vs,kv,dd⟩:bR X.prog X.w H1 s1.heap a (.dK kvs):=I1.ax a _ hq
 obtain ⟨o,es,ep,ho,oe,hd,r⟩:=id dd
 have da:=jP ho hd dd
 refine Raf hs da ?_
 have I2:=(I1.freeze hq ho).kept (h':=s1.heap.push { cls:=.type "dict_keyiterator",data:=.fields #[.ref a,.int 0 0,.int vs.length 0,.int ep 0] }) (t':=s1.toks) λb o e=>Qc _ e
 have nA:a≠s1.heap.objs.size:=Qy (Qo ho)
 refine ⟨s1.heap.objs.size,[s1.heap.objs.size],_,_,_,rfl,I2,aCW a _ o es ep hd kvs,?_,λb hb=>?_,q o (I1.nf hq)⟩
 ·refine ⟨_,Qj _ rfl,rfl,?_⟩
  rw [kv.length]; rfl
 ·have e:b=s1.heap.objs.size:=by simpa using hb
  subst e
  exact I1.j8 (Qh _) (by rw [aF (Ne.symm nA)]; exact I1.ax.fresh (Qh _))
def aH0 (H0:Hp) (t:TS):TS:=λD σ H=>t { D with nx:=λak H'=>∃ a o kvs,H' a=some (.bq o (.dK kvs))/\NF H0 a/\D.nx ak (upd H' a (.dK kvs)) } σ H
theorem yI {t:TS} (h:PS X st t):PS X st (aH0 X.t_ t):=by
 intro aa s σ H D I q
 refine bh (h aa s σ H _ I q) λf s1 z=>?_
 cases f with
 | next =>
  obtain ⟨ak,H',I',a,o,kvs,e,nf,k⟩:=z
  exact ⟨ak,_,I'.EJ e nf,k⟩
 | brk=>exact z
 | cont=>exact z
 | ret u=>exact z
theorem uH {a:Addr} {tb:TS} {D:Ends} {σ:St} (Pv:Nat->St->Hp->Prop) (h0:Pv 0 σ H) (hl:∀ i σ H,i<=kvs.length->Pv i σ H->H a=some (.bq o (.dK kvs))) (hs:∀ i p σ H,kvs[i]?=some p->Pv i σ H->g (kV p.1) σ H λaz H2=>tb { D with nx:=Pv (i+1),ct:=Pv (i+1),bk:=D.nx } az H2) (hd:∀ σ H,Pv kvs.length σ H->D.nx σ H) :
  ∃ W:Nat->Nat->St->Hp->Prop,(∃ m,W 0 m σ H)/\∀ i m σ H,W i m σ H ->
   ((sk a o kvs).stop i H/\D.nx σ H)∨((sk a o kvs).go i H/\∃ N:St->Hp->Prop,(∀ ak H',N ak H'->∃ m',m' < m/\W (i+1) m' ak H')/\∀ x H',(sk a o kvs).pw i H x H'->g x σ H' λaz H2=>tb { D with nx:=N,ct:=N,bk:=D.nx } az H2):=by
 refine ⟨λi m σ H=>m=kvs.length - i/\i<=kvs.length/\Pv i σ H,⟨kvs.length,by simp,Jt _,h0⟩,?_⟩
 rintro i m σ H ⟨rfl,hi,p⟩
 have q:=hl i σ H hi p
 by_cases bw:i < kvs.length
 ·refine .inr ⟨⟨q,bw⟩,Pv (i+1),λak H' p'=>⟨kvs.length - (i+1),by omega,rfl,bw,p'⟩,λx H' y=>?_⟩
  obtain ⟨rfl,v,hv,rfl⟩:=y
  exact hs i v σ H' hv p
 ·have e:i=kvs.length:=by omega
  subst e
  exact .inl ⟨⟨q,rfl⟩,hd σ H p⟩
def aG7 (tk tv:TE):TE:=λσ H Q=>∀ p,H p=none->tk σ (upd H p (.dK [])) λx H1=>tv σ H1 λy H2=>∃ k,x=kV k/\H2 p=some (.dK [])/\Q (.ref p) (upd H2 p (.dK [(k,y)]))
section
variable {ek ev:Expr}
theorem aDV (hk:PE X ek tk) (hv:PE X ev tv) (he:evalEachOpt [some ek] X.env = [some (eval ek X.env)]:=by rfl) (JX:evalEach [ev] X.env = [eval ev X.env]:=by rfl):PE X (.Dict [some ek] [ev] pos) (aG7 tk tv):=by
 intro aa s σ H Q I h
 have I0:Inv X aa σ (upd H s.heap.objs.size (.dK [])) { s with heap:=s.heap.push { cls:=.type "dict",data:=.dict #[] } }:=I.laid (a:=s.heap.objs.size) (o:=.dK []) (t':=s.toks) (λ_ _ q=>Qc _ q) (Qh _) (uF s.heap I.big)
 have h0:=h s.heap.objs.size (I.ax.fresh (Qh _))
 refine wpAny_Dict_pairs (knd:=bF X.prog X.w) (pairs:=[(eval ek X.env,do let x<-eval ev X.env; standAt pos; pure x)]) (by rw [he,JX]; rfl) (by simp) (by simp) ?_
 refine evalPairs_cons (bh (hk aa _ σ _ _ I0 h0) λkv s1 ay=>?_)
 obtain ⟨x,H1,I1,r1,q1⟩:=ay
 refine Ra (bh (hv aa _ σ _ _ I1 q1) λvv s2 ay=>?_)
 obtain ⟨y,H2,I2,r2,q2⟩:=ay
 refine Ra (Va (Rc (evalPairs_nil ?_)))
 obtain ⟨k,rfl,hp,q⟩:=q2
 obtain ⟨hz,hs,vs,YZ,dd⟩:bR X.prog X.w H2 s2.heap s.heap.objs.size (.dK []):=I2.ax _ _ hp
 have w?:vs = []:=by
  have:=YZ.length
  exact Zn.mp this.symm
 subst w?
 refine ⟨[(k,vv)],⟨qC r1,rfl,trivial⟩,dd,λh' ly sb=>?_⟩
 have em:merged ([]:List (Key×Value)) [(k,vv)] = [(k,vv)]:=by simp [merged,stored]
 rw [em] at ly
 obtain ⟨o',D4,D5,ki,_⟩:=id ly
 have mu:Bv (H2 s.heap.objs.size):=by rw [hp]; trivial
 refine ⟨.ref s.heap.objs.size,_,qG (t':=s2.toks+1) I2 mu sb ⟨_,ki⟩ (uE (kvs:=[(k,y)]) (by simp [Rf]) hs (.cons ⟨rfl,r2⟩ .nil) ly),rfl,q⟩
end
def kP (h:Heap) (u:Value) (i:Int) (v:Value):Prop:=∃ p,u=.ref p/\((∃ ag:Array Value,h.IsTuple p ag/\0<=i/\i < 1000/\ag[i.toNat]?=some v)∨∃ ag:Array Value,h.IsList p ag/\0<=i/\i < 1000/\ag[i.toNat]?=some v)
theorem kP.keeps {i:Int} {v:Value} (x:kP h u i v) (k:∀ b o,h.get? b=some o->h'.get? b=some o):kP h' u i v:=by
 obtain ⟨p,rfl,⟨ag,⟨o,ho,r⟩,q⟩ | ⟨ag,⟨o,ho,r⟩,q⟩⟩:=x
 ·exact ⟨p,rfl,.inl ⟨ag,⟨o,k _ _ ho,r⟩,q⟩⟩
 ·exact ⟨p,rfl,.inr ⟨ag,⟨o,k _ _ ho,r⟩,q⟩⟩
theorem qI {i:Int} (h0:0<=i) (h1:i.toNat < n):seqIndex? i n=some i.toNat:=by
 unfold seqIndex?
 have e:¬ (i < 0):=by omega
 simp only [e,if_false]
 have e2:(decide (0<=i) && decide (i < (n:Int)))=true:=by simp; omega
 rw [if_pos e2]
theorem aFt {env:Env} {m:Str->Option Value} {v:Value} {i:Int} {t:Tok} (hk:env.scope.kind=.function) (hv:env.kindOf vn=some .free) (hx:env.kindOf xn=some .local) (hc:env.cells.lookup vn=some c) (hC:s.heap.IsCell c (some u)) (hn:s.heap.Ns env.locals m) (hm:m xn=some (.int i t)) (hI:kP s.heap u i v) (h:Q v s) (d1:(vn==("__debug__" : Str))=false) (d2:(vn==("__classdict__" : Str))=false) (d3:(xn==("__debug__" : Str))=false) :
  wpAny (model prog w) A (eval (.Subscript (.Name vn p1) (.Name xn p2) p3) env) Q E s:=by
 refine Vi (Ic (Rac hk hv hc hC ?_ d2) d1)
 refine Ic (My hk hx hn hm ?_) d3
 obtain ⟨p,rfl,⟨ag,hp,i0,i1,e⟩ | ⟨ag,hp,i0,i1,e⟩⟩:=hI
 ·have bw:i.toNat < ag.size:=(Array.getElem?_eq_some_iff.mp e).1
  exact Ul (x:=v) hp.typeIs slot_tuple_getitem.lookup
   (getItem_tuple (j:=i.toNat) (Q:=λr s'=>r=v/\Q r s') hp (by omega) (by omega) (qI i0 bw) e ⟨rfl,h⟩)
 ·have bw:i.toNat < ag.size:=(Array.getElem?_eq_some_iff.mp e).1
  exact Ul (x:=v) hp.typeIs slot_list_getitem.lookup
   (wpAny_getItem_list (Q:=λr s'=>r=v/\Q r s') hp (by omega) (by omega) e ⟨rfl,h⟩)
theorem aDW {c':Addr} {nm:Str} {qi v:Value} {i:Int} {t:Tok} (Fo:A.depth < recursionLimit) (vi:s.heap.NoLimit) (hf:s.heap.get? f=some { cls:=.type "function",data:=.func (Ue nm q params (.Subscript (.Name vn p1) (.Name xn p2) p3) scope cl pm (.ref c') qi) }) (ju:s.heap.CodeRec (.ref c') q) (nc:bindArgs (Ue nm q params (.Subscript (.Name vn p1) (.Name xn p2) p3) scope cl pm (.ref c') qi) ⟨[.int i t],[]⟩=pure [(xn,.int i t)]) (hx:scope.names.lookup xn=some .local) (hv:scope.names.lookup vn=some .free) (J':scope.isCoroutine=false) (BX:scope.isGenerator=false) (hk:scope.kind=.function) (fh:∀ x∈scope.names,x.2≠.cell) (hc:cl.lookup vn=some c) (hC:s.heap.IsCell c (some u)) (hI:kP s.heap u i v) (h:∀ h' tk,(∀ b o,s.heap.get? b=some o->h'.get? b=some o)->Q v { s with heap:=h',toks:=tk }) (d1:(vn==("__debug__" : Str))=false) (d2:(vn==("__classdict__" : Str))=false) (d3:(xn==("__debug__" : Str))=false) :
  wpAny (model prog w) A (call (.ref f) [.int i t]) Q E s:=by
 refine Vg (PySem.W.kla_callFunE Fo hf rfl J' BX rfl ju ?_)
 rw [nc]
 refine Rc (Rab fh (λy hy=>by rw [Qx.mp hy]; exact hx) (λka jg F5=>⟨vi.fresh _ F5,?_⟩) hk)
 have BW:∀ b o,s.heap.get? b=some o->ka.get? b=some o:=λb o e=>F5.extBut b o (Qy (Qo e)) (Qc _ e)
 obtain ⟨oc,qc,DJ⟩:=hC
 refine PySem.W.kla_codeExpr (aFt (env:=newEnv scope s.heap.objs.size mainGlobals cl (q ++ ".<locals>.") (some f) (.ref c') none builtinsNs) (m:=λx=>[(xn,Value.int i t)].reverse.lookup x) (t:=t) hk hv hx hc ⟨oc,BW _ _ qc,DJ⟩ jg ?_ (hI.keeps BW) (h ka _ BW) d1 d2 d3)
 simp [List.lookup]
section
variable {I:Addr} {wr:List Addr} {Pv:Nat->Value->Prop} {St:Nat->Heap->Prop} {kf:Nat->Int} {L:List (Addr×Obj)}
def Le (prog:Program) (w:World) (A:Around) (f:Addr) (L:List (Addr×Obj)) (n:Nat) (Pv:Nat->Value->Prop) (kf:Nat->Int):Prop :=
 ∀ i v (s:Shared) (Q:Value->Shared->Prop) (E:Value->Shared->Prop),i < n->Pv i v->(∀ p∈L,s.heap.get? p.1=some p.2) ->
  (∀ h' tk t,(∀ b o,s.heap.get? b=some o->h'.get? b=some o)->Q (.int (kf i) t) { s with heap:=h',toks:=tk })->wpAny (model prog w) A (call (.ref f) [v]) Q E s
abbrev j3 (kf:Nat->Int):Nat->Nat->Bool:=λi j=>decide (kf i < kf j)
theorem yJ (W:Walks prog w A.in1 I fp wr n Pv St) (fw:Le prog w A.in1 f L n Pv kf) (S:Addr) (zx:S∉fp) (hL:∀ p∈L,p.1∉wr/\p.1≠S) :
  ∀ (k j:Nat) (s:Shared) (vb:Value) (t:Tok) (c:Nat),n - (j+1)=k->j+1<=n->St (j+1) s.heap->Pv (argBest (j3 kf) j) vb ->
  s.heap.get? S=some { cls:=.type "list",dict:=none,data:=.seq #[vb,.int (kf (argBest (j3 kf) j)) t] c,slots:=#[] }->(∀ p∈L,s.heap.get? p.1=some p.2) ->
  (∀ v h' tk,Pv (argBest (j3 kf) (n - 1)) v->(∀ b o,b∉wr->b≠S->s.heap.get? b=some o->h'.get? b=some o)->R (.ok (.ret v)) { s with heap:=h',toks:=tk }) ->
  codeAny (model prog w) A (.builtin "min.loop" ⟨[.ref I,.ref f,.ref S],[]⟩) R s:=by
 have Gi:S∉wr:=λh=>zx (W.sub _ h)
 have ke:(toString "min" ++ toString ".loop" : String) = "min.loop" := by decide
 intro k
 induction k with
 | zero =>
  intro j s vb t c hk hj ig Kl hS wq hR
  have rh:j+1=n:=by omega
  refine Vk F.entry_min_loop ?_
  rw [Around.under_plainId F.plain_min_loop _]
  show wpAny _ A.in1 (seqItems? (.ref S) >>= _) _ _ s
  refine Ra (Tf hS rfl ?_)
  show wpAny _ A.in1 (tryCatch (pyNext (.ref I)) _ >>= _) _ _ s
  refine Ra (Um (W.done s _ _ (rh ▸ ig) λh' tk kk=>?_))
  have yi:=kk S _ Gi hS
  show wpAny _ A.in1 (updateSeq S (λ_=>#[]) >>= _) _ _ _
  refine Ra ?_
  refine Me yi rfl (Ra (Uj (Rc ?_)))
  exact hR vb _ _ (by rw [<- rh]; exact Kl) λb o hb ye e=>(Jq _ _ (Ne.symm ye)).trans (kk b o hb e)
 | succ k ih =>
  intro j s vb t c hk hj ig Kl hS wq hR
  have bw:j+1 < n:=by omega
  refine Vk F.entry_min_loop ?_
  rw [Around.under_plainId F.plain_min_loop _]
  show wpAny _ A.in1 (seqItems? (.ref S) >>= _) _ _ s
  refine Ra (Tf hS rfl ?_)
  show wpAny _ A.in1 (tryCatch (pyNext (.ref I)) _ >>= _) _ _ s
  refine Ra (Um (W.item (j+1) s _ _ bw ig λv h1 XI hP BM AV=>?_))
  have yh:=AV S _ Gi hS
  show wpAny _ A.in1 (tryCatch (holding [v] (call (.ref f) [v])) _ >>= _) _ _ _
  refine Ra (Um (Rx (fw (j+1) v _ _ _ bw hP (λp hp=>AV _ _ (hL p hp).1 (wq p hp)) λh2 XH t2 AU=>?_)))
  have og:=AU S _ yh
  have yr:St (j+1+1) h2:=W.frame _ _ _ BM λb _ o e=>AU b o e
  show wpAny _ A.in1 (tryCatch (holding [v,.int (kf (j+1)) t2] (richCompare .Lt (.int (kf (j+1)) t2) (.int (kf (argBest (j3 kf) j)) t) >>= _)) _ >>= _) _ _ _
  have Nc:CmpOf prog w A.in1 .Lt (λi u=>∃ t,u=.int (kf i) t) (j3 kf):=CmpOf.ints_lt kf λi v h=>h
  refine Ra (Um (Rx (Ra (Nc (j+1) (argBest (j3 kf) j) _ _ _ _ _ ⟨_,rfl⟩ ⟨_,rfl⟩ ?_))))
  refine Ra (Rx (Td ?_))
  refine Ra (Uj (Rc ?_))
  have kk:∀ b o,b∉wr->s.heap.get? b=some o->h2.get? b=some o:=λb o hb e=>AU b o (AV b o hb e)
  cases hb:j3 kf (j+1) (argBest (j3 kf) j) with
  | true =>
   simp only [if_true]
   refine Ra ?_
   refine Me og rfl (Ra (Uj ?_))
   rw [ke]
   have eb:argBest (j3 kf) (j+1)=j+1:=by simp only [argBest,hb,if_true]
   refine Rc ⟨Vz F.plain_min_loop _,ih (j+1) _ v t2 _ (by omega) bw (W.frame _ _ _ yr λb yd o e=>?_) (by rw [eb]; exact hP) (by rw [eb]; exact Za _ og rfl) (λp hp=>?_) λv' h' tk r6 AW=>?_⟩
   ·exact (Jq _ _ (λh:S=b=>zx (by rw [h]; exact yd))).trans e
   ·exact (Jq _ _ (Ne.symm (hL p hp).2)).trans (kk _ _ (hL p hp).1 (wq p hp))
   ·exact hR v' h' tk r6 λb o hb ye e=>AW b o hb ye ((Jq _ _ (Ne.symm ye)).trans (kk b o hb e))
  | false =>
   simp only [Zm,if_false]
   refine Ra (Uj ?_)
   rw [ke]
   have eb:argBest (j3 kf) (j+1)=argBest (j3 kf) j:=by simp only [argBest,hb,Zm,if_false]
   refine Rc ⟨Vz F.plain_min_loop _,ih (j+1) _ vb t c (by omega) bw yr (by rw [eb]; exact Kl) (by rw [eb]; exact og) (λp hp=>kk _ _ (hL p hp).1 (wq p hp)) λv' h' tk r6 AW=>?_⟩
   exact hR v' h' tk r6 λb o hb ye e=>AW b o hb ye (kk b o hb e)
theorem wH (W:Walks prog w A.in1 I fp wr n Pv St) (fw:Le prog w A.in1 f L n Pv kf) (S:Addr) (zx:S∉fp) (hL:∀ p∈L,p.1∉wr/\p.1≠S) (hn:0 < n) {c:Nat} (ig:St 0 s.heap) (hS:s.heap.get? S=some { cls:=.type "list",dict:=none,data:=.seq #[] c,slots:=#[] }) (wq:∀ p∈L,s.heap.get? p.1=some p.2) (hR:∀ v h' tk,Pv (argBest (j3 kf) (n - 1)) v->(∀ b o,b∉wr->b≠S->s.heap.get? b=some o->h'.get? b=some o)->R (.ok (.ret v)) { s with heap:=h',toks:=tk }) :
  codeAny (model prog w) A (.builtin "min.loop" ⟨[.ref I,.ref f,.ref S],[]⟩) R s:=by
 have Gi:S∉wr:=λh=>zx (W.sub _ h)
 have ke:(toString "min" ++ toString ".loop" : String) = "min.loop" := by decide
 refine Vk F.entry_min_loop ?_
 rw [Around.under_plainId F.plain_min_loop _]
 show wpAny _ A.in1 (seqItems? (.ref S) >>= _) _ _ s
 refine Ra (Tf hS rfl ?_)
 show wpAny _ A.in1 (tryCatch (pyNext (.ref I)) _ >>= _) _ _ s
 refine Ra (Um (W.item 0 s _ _ hn ig λv h1 XI hP BM AV=>?_))
 have yh:=AV S _ Gi hS
 show wpAny _ A.in1 (tryCatch (holding [v] (call (.ref f) [v])) _ >>= _) _ _ _
 refine Ra (Um (Rx (fw 0 v _ _ _ hn hP (λp hp=>AV _ _ (hL p hp).1 (wq p hp)) λh2 XH t2 AU=>?_)))
 have og:=AU S _ yh
 have yr:St (0+1) h2:=W.frame _ _ _ BM λb _ o e=>AU b o e
 show wpAny _ A.in1 (updateSeq S (λ_=>#[v,.int (kf 0) t2]) >>= _) _ _ _
 refine Ra ?_
 refine Me og rfl ?_
 rw [ke]
 have kk:∀ b o,b∉wr->s.heap.get? b=some o->h2.get? b=some o:=λb o hb e=>AU b o (AV b o hb e)
 refine Rc ⟨Vz F.plain_min_loop _,yJ W fw S zx hL _ 0 _ v t2 _ rfl hn (W.frame _ _ _ yr λb yd o e=>?_) hP (Za _ og rfl) (λp hp=>?_) λv' h' tk r6 AW=>?_⟩
 ·exact (Jq _ _ (λh:S=b=>zx (by rw [h]; exact yd))).trans e
 ·exact (Jq _ _ (Ne.symm (hL p hp).2)).trans (kk _ _ (hL p hp).1 (wq p hp))
 ·exact hR v' h' tk r6 λb o hb ye e=>AW b o hb ye ((Jq _ _ (Ne.symm ye)).trans (kk b o hb e))
theorem yK (a k:Value):argsOk "min" ⟨[a],[(Str.ofString "key",k)]⟩:=by unfold argsOk; kernel_rfl
theorem yL {id:String} {b:Builtin} {args:List Value} (hk:builtinKind id=none) (hp:plainId id=true) (hb:entryFor table id=some b) (ha:argsOk id ⟨args,kw⟩) (hc:wpAny (model prog w) A.in1 (b ⟨args,kw⟩) (λfin s'=>match fin with
   | .done f=>(match (Except.ok f:Result) with | .ok (.ret v)=>Q v s' | .ok _=>False | .error e=>E e s')
   | .again c'=>c'.quiet=true/\codeAny (model prog w) A c' (λr s'=>match r with | .ok (.ret v)=>Q v s' | .ok _=>False | .error e=>E e s') s') E s) :
  wpAny (model prog w) A (call (.builtin id) args kw) Q E s:=by
 refine Vg (Vp hp hb ?_)
 simp only [checkBuiltinCall,hk]
 cases MS:Manifest.signature? id with
 | none=>exact Rc hc
 | some sig =>
  simp only [argsOk,MS] at ha
  have h2:Bind.checkArgs id sig ⟨args,kw⟩=pure ():=ha
  show wpAny _ A.in1 (Bind.checkArgs id sig ⟨args,kw⟩) _ _ s
  rw [h2]; exact Rc hc
theorem yM {x:Value} (h:wpAny (model prog w) A.in1 (pyIter x) (λit jf=>∃ I fp wr n Pv St kf L,it=.ref I/\Walks prog w A.in1 I fp wr n Pv St/\St 0 jf.heap/\(∀ b∈fp,b < jf.heap.objs.size)/\0 < n/\Le prog w A.in1 f L n Pv kf /\
   (∀ p∈L,p.1∉wr)/\(∀ p∈L,jf.heap.get? p.1=some p.2) /\
   ∀ v h' tk,Pv (argBest (j3 kf) (n - 1)) v->(∀ b o,b∉wr->jf.heap.get? b=some o->h'.get? b=some o)->Q v { jf with heap:=h',toks:=tk }) E s) :
  wpAny (model prog w) A (call (.builtin "min") [x] [(Str.ofString "key",.ref f)]) Q E s:=by
 have ke:(toString "min" ++ toString ".loop" : String) = "min.loop" := by decide
 refine yL F.kind_min F.plain_min F.entry_min (yK _ _) ?_
 show wpAny _ A.in1 (Builtin.Builtins.bindParams "min" ["key", "default"] 0 ⟨[],[(Str.ofString "key",.ref f)]⟩ >>= _) _ _ s
 refine Ra (wpAny_of_eq (show Builtin.Builtins.bindParams "min" ["key", "default"] 0 ⟨[],[(Str.ofString "key",.ref f)]⟩=pure [some (.ref f),none] from rfl) ?_)
 refine Ra (Rc ?_)
 refine Ra (Rj h (λit jf Bf=>?_) λ_ _ e=>e)
 obtain ⟨I,fp,wr,n,Pv,St,kf,L,rfl,W,ig,ow,hn,fw,i!,wq,hQ⟩:=Bf
 refine Ra (Rq ?_)
 have zx:jf.heap.objs.size∉fp:=λhm=>Jl _ (ow _ hm)
 rw [ke]
 refine Rc ⟨Vz F.plain_min_loop _,wH W fw jf.heap.objs.size zx (λp hp=>⟨i! p hp,Qy (Qo (wq p hp))⟩) hn (W.frame _ _ _ ig λb _ o e=>Qc _ e) (Qj _ rfl) (λp hp=>Qc _ (wq p hp)) λv h' tk hP hk=>?_⟩
 exact hQ v h' tk hP λb o Ξ e=>hk b o Ξ (Qy (Qo e)) (Qc _ e)
end
structure Lm (K:Rb) (mg:Str->Option Value) (base:Heap) (c P:Addr):Prop where
 hd:Ui K c P=true
 gP:mainGlobals≠P
 bu:base.BuiltinsAt mg P
theorem oN {p0:Pos} {c cv:Value}:∀ {l:List Value},TriplesOk l->codeAmong pos (l++[rawInt p0.line,rawInt p0.col,c])=some cv->codeAmong pos l=some cv∨cv=c
 | [],_,e=>by
  simp only [Wf,rawInt,codeAmong] at e
  split at e
  ·exact .inr (Option.some.inj e).symm
  ·cases e
 | .int a t::.int b u::x::r,h,e=>by
  simp only [List.cons_append,codeAmong] at e ⊢
  split
  ·rename_i hc
   rw [if_pos hc] at e
   exact .inl e
  ·rename_i hc
   rw [if_neg hc] at e
   exact oN (show TriplesOk r from h) e
section
variable {σ:St} {P c':Addr} {ps:Array Value}
theorem Inv.grown {p0:Pos} (I:Inv X aa σ H s) (hT:H P=some (.tab q)) (hx:Heap.ExtBut P s.heap h') (A':s.heap.objs.size<=c') (CF:h'.CodeRec (.ref c') q) (g!:s.heap.get? P=some (Ta ps)) (Gj:h'.get? P=some (Ta (ps++#[rawInt p0.line,rawInt p0.col,.ref c']))) :
  Inv X aa σ (upd H c' (.own P)) { s with heap:=h',toks:=t' }:=by
 have hf:H c'=none:=I.ax.fresh A'
 have hn:∀ b,H b=none->b≠P:=λb n z=>by rw [z,hT] at n; cases n
 have hc:∀ b u,H b=some u->b≠c':=λb u n z=>by rw [z,hf] at n; cases n
 have bw:∀ b o,s.heap.get? b=some o->b≠c':=λb o e=>Qy (Qq (Qo e) A')
 obtain ⟨c2,oc,vs,tq,ec,qc,DJ,hv⟩:=CF
 cases ec
 refine I.un ⟨λb o e n _ _=>hx b o (hn b n) e,λb o e n _ _=>⟨o.slots,hx b o (hn b n) e⟩,λb o e n _=>by rw [aF (bw b o e)]; exact n,λb o e _=>?_,λb xs e=>by rw [aF (hc b _ e)]; exact e,λb o u e=>by rw [aF (hc b _ e)]; exact e,λb ps e=>⟨#[],by rw [aF (hc b _ e),e]; simp⟩⟩ ?_
 ·by_cases hb:b=P
  ·subst hb; exact ⟨_,Gj⟩
  ·exact ⟨o,hx b o hb e⟩
 ·intro b u e
  by_cases hb:b=c'
  ·subst hb
   rw [aB] at e; cases e
   exact ⟨oc,qc⟩
  ·rw [aF hb] at e
   by_cases Gf:b=P
   ·subst Gf
    rw [hT] at e; cases e
    obtain ⟨ps0,e0,tr,r⟩:∃ ps:Array Value,s.heap.get? b=some { cls:=.none,data:=.fields ps }/\TriplesOk ps.toList/\∀ (pos:Pos) (cv:Value),codeAmong pos ps.toList=some cv->∃ (c:Addr) (o:Obj) (vs:Array Value) (t:Tok),cv=.ref c/\H c=some (.own b)/\s.heap.get? c=some o/\o.data=.fields vs/\(vs[1]?:Option Value)=some (.str q t):=I.ax b _ hT
    rw [g!] at e0
    cases e0
    have el:(ps++#[rawInt p0.line,rawInt p0.col,Value.ref c']).toList=ps.toList++[rawInt p0.line,rawInt p0.col,.ref c']:=by simp
    refine ⟨_,Gj,by rw [el]; exact TriplesOk_snoc _ _ _ _ tr,λpos cv z=>?_⟩
    rw [el] at z
    rcases oN tr z with z | rfl
    ·obtain ⟨c3,o3,W_,t3,r1,r2,r3,r4⟩:=r pos cv z
     have n3:c3≠b:=λy=>by rw [y,hT] at r2; cases r2
     exact ⟨c3,o3,W_,t3,r1,by rw [aF (hc _ _ r2)]; exact r2,hx _ _ n3 r3,r4⟩
    ·exact ⟨c',oc,vs,tq,rfl,aB,qc,DJ,hv⟩
   ·refine (I.ax b u e).d_ (λd v hd z=>hx d v ?_ z) (λd z=>by rw [aF (hc _ _ z)]; exact z) λd xs z=>by rw [aF (hc _ _ z)]; exact z
    rcases hd with rfl | hd
    ·exact Gf
    ·intro z
     rw [z,hT] at hd; cases hd
theorem aDY {body:Expr} (I:Inv X aa σ H s) (Z:Lm X.K X.mg X.base c P) (qk:X.env.code=.ref c) (hT:H P=some (.tab q)) (hq:X.env.qual ++ "<lambda>" = q) (BZ:defaultsOf params X.env=([],[])) (uw:closureFor scope X.env=pure cl) (h:∀ f c' qi pm s' H',Inv X aa σ H' s'->aD H H'->(∀ b o,b≠P->s.heap.get? b=some o->s'.heap.get? b=some o) ->
   s'.heap.get? f=some { cls:=.type "function",data:=.func (Ue "<lambda>" q params body scope cl pm (.ref c') qi) }->s'.heap.CodeRec (.ref c') q->Q (.ref f) s') :
  wpAny (model X.prog X.w) X.A (eval (.Lambda params body scope pos) X.env) Q E s:=by
 obtain ⟨ps,hP,tr,r⟩:∃ ps:Array Value,s.heap.get? P=some { cls:=.none,data:=.fields ps }/\TriplesOk ps.toList/\∀ (pos:Pos) (cv:Value),codeAmong pos ps.toList=some cv->∃ (c:Addr) (o:Obj) (vs:Array Value) (t:Tok),cv=.ref c/\H c=some (.own P)/\s.heap.get? c=some o/\o.data=.fields vs/\(vs[1]?:Option Value)=some (.str q t):=I.ax P _ hT
 have hg:s.heap.Ns mainGlobals X.mg:=I.mod.glob.keeps I.bk
 have C:Vc s.heap c P:=Vf I.i_ Z.hd
 have hb:s.heap.BuiltinsAt X.mg P:=by
  obtain ⟨bm,o,e1,e2,e3,e4,e5,e6⟩:=Z.bu
  exact ⟨bm,o,e1,e2,e3,e4,I.bk _ _ e5,e6⟩
 refine PySem.W.kla_eval BZ ?_
 rw [hq]
 cases hf:codeAmong pos ps.toList with
 | none =>
  refine PySem.W.kla_makeFunction uw I.ok.glob hg qk C hP tr hf Z.gP hb λc' qi h' tk hx A' bw CF Gj=>?_
  have I1:Inv X aa σ (upd H c' (.own P)) { s with heap:=h',toks:=tk }:=I.grown hT hx A' CF hP Gj
  have I2:=I1.kept (h':=h'.push (PySem.W.kla_obj "<lambda>" q params body scope cl ((X.mg "__name__").getD .none) c' qi)) (t':=tk) λb o e=>Qc _ e
  refine h _ c' qi _ _ _ I2 (aD.new (I.ax.fresh A')) (λb o Gf e=>Qc _ (hx b o Gf e)) (Qj _ rfl) ?_
  obtain ⟨c2,oc,vs,tq,ec,qc,r⟩:=CF
  exact ⟨c2,oc,vs,tq,ec,Qc _ qc,r⟩
 | some cv =>
  obtain ⟨c',o,vs,t,rfl,r2,r3,r4,r5⟩:=r pos cv hf
  refine PySem.W.kla_makeFunctionHit uw I.ok.glob hg qk C hP tr hf hb λqi h' tk kk hsz=>?_
  have I2:=I.kept (h':=h'.push { cls:=.type "function",data:=.func (Ue "<lambda>" q params body scope cl ((X.mg "__name__").getD .none) (.ref c') qi) }) (t':=tk) λb o e=>Qc _ (kk b o e)
  exact h _ c' qi _ _ _ I2 (aD.refl H) (λb o _ e=>Qc _ (kk b o e)) (Qj _ rfl) ⟨c',o,vs,t,rfl,Qc _ (kk _ _ r3),r4,r5⟩
end
theorem oO (num:Nat->Int):∀ k,∀ l,l < argBest (j3 num) k->num (argBest (j3 num) k) < num l
 | 0=>λl hl=>by simp [argBest] at hl
 | k+1=>λl hl=>by
  have h2:=(argBest_lt num k).2
  simp only [argBest] at hl ⊢
  by_cases hc:num (k+1) < num (argBest (j3 num) k)
  ·rw [if_pos (show j3 num (k+1) (argBest (j3 num) k)=true from decide_eq_true hc)] at hl ⊢
   have:=h2 l (by omega)
   show num (k+1) < num l
   have e:num (argBest (λi j=>decide (num i < num j)) k)=num (argBest (j3 num) k):=rfl
   omega
  ·rw [if_neg (show ¬ j3 num (k+1) (argBest (j3 num) k)=true from λz=>hc (of_decide_eq_true z))] at hl ⊢
   exact oO num k l hl
def G8 (K:Rb) (H:Hp) (x:V) (ns:List Int):Prop:=∃ a,x=.ref a/\(au K H a (ns.map V.int)∨aq K H a (ns.map V.int)∨∃ kvs:List (Key×V),H a=some (.dK kvs)/\kvs.map (·.1)=ns.map Sum.inl)
def G4 (K:Rb) (H:Hp) (u:V) (n k:Int):Prop:=0<=n/\n < 1000/\∃ a xs,u=.ref a/\(aq K H a xs∨au K H a xs)/\xs[n.toNat]?=some (.int k)
def aFu (K:Rb) (P:Addr) (q:Str) (iv:Nat) (te:TE):TE:=λσ H Q=>te σ H λx H1=>∃ (ns:List Int) (kf:Int->Int) (u:V),G8 K H1 x ns/\0 < ns.length/\H1 P=some (.tab q)/\σ[iv]?=some (some u)/\(∀ n∈ns,G4 K H1 u n (kf n)) /\
 ∀ (j:Nat) (m:Int) (H2:Hp),aD H1 H2->ns[j]?=some m->(∀ n∈ns,kf m<=kf n)->(∀ (l:Nat) (n:Int),l < j->ns[l]?=some n->kf m < kf n)->Q (.int m) H2
section
variable {σ:St}
theorem aBm {x:V} (hh:A.handled=none) (I:Inv X aa σ H s) (hx:G8 X.K H x ns) (r:bQ x u) (h:∀ (It:Addr) fp (Pv:Nat->Value->Prop) St s2,Walks X.prog X.w A It fp [It] ns.length Pv St->(∀ i v,Pv i v->∃ n t,ns[i]?=some n/\v=.int n t)->St 0 s2.heap->(∀ b∈fp,b < s2.heap.objs.size)->s.heap.objs.size<=It ->
   (∀ b o,s.heap.get? b=some o->s2.heap.get? b=some o)->(∃ h2,s2={ s with heap:=h2 })->Q (.ref It) s2):wpAny (model X.prog X.w) A (pyIter u) Q E s:=by
 obtain ⟨a,rfl,hx⟩:=hx
 cases r
 rcases hx with hx | hx | ⟨kvs,hx,hk⟩
 ·obtain ⟨ag,rv,p,hz⟩:=I.list hx
  have hl:=rv.length
  rw [Qd] at hl
  have ht:=p.isList
  have bw:a < s.heap.objs.size:=by obtain ⟨o,e,_⟩:=ht; exact Qo e
  have ff:a≠s.heap.objs.size:=Qy bw
  have W0:=Walks.list (prog:=X.prog) (w:=X.w) (A:=A) hh s.heap.objs.size a ff ag.toArray
  rw [show ag.toArray.size=ns.length by rw [Qm,hl]] at W0
  refine Uk ht (h s.heap.objs.size [s.heap.objs.size,a] _ _ { s with heap:=s.heap.push { cls:=.type "list_iterator",data:=.fields #[.ref a,.int 0 0] } } W0 (λi v e=>?_) ⟨⟨_,Qj _ rfl,rfl,rfl⟩,ht.push _⟩ (λb hb=>?_) (Qh _) (λb o e=>Qc _ e) ⟨_,rfl⟩)
  ·have e':ag[i]?=some v:=by simpa using e
   obtain ⟨hi,_⟩:=Qa.mp e'
   obtain ⟨w',ew,fu⟩:=rv.get (i:=i) (x:=.int (ns[i]'(by omega))) (by rw [Qi,Qb (show i < ns.length by omega)]; rfl)
   rw [e'] at ew; cases ew
   obtain ⟨t,rfl⟩:=fu
   exact ⟨_,t,Qb (show i < ns.length by omega),rfl⟩
  ·show b < (s.heap.push _).objs.size
   rw [Jm]
   simp only [Ql,Qt,or_false] at hb
   rcases hb with hb | hb
   ·rw [hb]; exact Xn _
   ·rw [hb]; exact Xi bw
 ·obtain ⟨ag,rv,p,hz⟩:=I.tuple hx
  have hl:=rv.length
  rw [Qd] at hl
  have ht:s.heap.IsTuple a ag.toArray:=p
  have bw:a < s.heap.objs.size:=by obtain ⟨o,e,_⟩:=ht; exact Qo e
  have ff:a≠s.heap.objs.size:=Qy bw
  have W0:=Walks.tuple (prog:=X.prog) (w:=X.w) (A:=A) hh s.heap.objs.size a ff ag.toArray
  rw [show ag.toArray.size=ns.length by rw [Qm,hl]] at W0
  refine Ie ht (h s.heap.objs.size [s.heap.objs.size,a] _ _ { s with heap:=s.heap.push { cls:=.type "tuple_iterator",data:=.fields #[.ref a,.int 0 0] } } W0 (λi v e=>?_) ⟨⟨_,Qj _ rfl,rfl,rfl⟩,ht.push _⟩ (λb hb=>?_) (Qh _) (λb o e=>Qc _ e) ⟨_,rfl⟩)
  ·have e':ag[i]?=some v:=by simpa using e
   obtain ⟨hi,_⟩:=Qa.mp e'
   obtain ⟨w',ew,fu⟩:=rv.get (i:=i) (x:=.int (ns[i]'(by omega))) (by rw [Qi,Qb (show i < ns.length by omega)]; rfl)
   rw [e'] at ew; cases ew
   obtain ⟨t,rfl⟩:=fu
   exact ⟨_,t,Qb (show i < ns.length by omega),rfl⟩
  ·show b < (s.heap.push _).objs.size
   rw [Jm]
   simp only [Ql,Qt,or_false] at hb
   rcases hb with hb | hb
   ·rw [hb]; exact Xn _
   ·rw [hb]; exact Xi bw
 ·obtain ⟨hz,hs,vs,kv,dd⟩:bR X.prog X.w H s.heap a (.dK kvs):=I.ax a _ hx
  obtain ⟨ep,da⟩:=dd.dictAt
  have hl:kvs.length=vs.length:=kv.length
  have ya:vs.length=ns.length:=by
   have:=congrArg Wl hk
   rw [Qd,Qd] at this
   omega
  have bw:=da.lt_size
  have ff:a≠s.heap.objs.size:=Qy bw
  have W0:=Walks.dictKeys (prog:=X.prog) (w:=X.w) (A:=A) (knd:=bF X.prog X.w) hh s.heap.objs.size a ff vs ep
  rw [ya] at W0
  refine Raf hs da (h s.heap.objs.size [s.heap.objs.size,a] _ _ { s with heap:=s.heap.push { cls:=.type "dict_keyiterator",data:=.fields #[.ref a,.int 0 0,.int vs.length 0,.int ep 0] } } W0 (λi v e=>?_) ⟨⟨_,Qj _ rfl,rfl,by rw [ya]; rfl⟩,da.push _⟩ (λb hb=>?_) (Qh _) (λb o e=>Qc _ e) ⟨_,rfl⟩)
  ·obtain ⟨k,x,hi,we⟩:=e
   have e1:(vs.map (·.1))[i]?=some k:=by rw [Qi,hi]; rfl
   rw [<- kv.keys,hk,Qi] at e1
   cases q:ns[i]? with
   | none=>rw [q] at e1; cases e1
   | some n =>
    rw [q] at e1
    have:k=Sum.inl n:=(Option.some.inj e1).symm
    subst this
    obtain ⟨t,rfl⟩:bQ (.int n) v:=uG we
    exact ⟨n,t,rfl,rfl⟩
  ·show b < (s.heap.push _).objs.size
   rw [Jm]
   simp only [Ql,Qt,or_false] at hb
   rcases hb with hb | hb
   ·rw [hb]; exact Xn _
   ·rw [hb]; exact Xi bw
theorem UE {u:V} {uv:Value} {n k:Int} (I:Inv X aa σ H s) (hk:G4 X.K H u n k) (r:bQ u uv):∃ t,kP s.heap uv n (.int k t):=by
 obtain ⟨h0,h1,a,xs,rfl,hx | hx,he⟩:=hk
 ·cases r
  obtain ⟨ag,rv,p,hz⟩:=I.tuple hx
  obtain ⟨w',ew,t,rfl⟩:=rv.get he
  exact ⟨t,a,rfl,.inl ⟨ag.toArray,p,h0,h1,by simpa using ew⟩⟩
 ·cases r
  obtain ⟨ag,rv,p,hz⟩:=I.list hx
  obtain ⟨w',ew,t,rfl⟩:=rv.get he
  exact ⟨t,a,rfl,.inr ⟨ag.toArray,p.isList,h0,h1,by simpa using ew⟩⟩
theorem kP.obj {i:Int} {v:Value} (x:kP h u i v):∃ p o,u=.ref p/\h.get? p=some o/\∀ h':Heap,h'.get? p=some o->kP h' u i v:=by
 obtain ⟨p,rfl,⟨ag,⟨o,ho,r⟩,q⟩ | ⟨ag,⟨o,ho,r⟩,q⟩⟩:=x
 ·exact ⟨p,o,rfl,ho,λh' e=>⟨p,rfl,.inl ⟨ag,⟨o,e,r⟩,q⟩⟩⟩
 ·exact ⟨p,o,rfl,ho,λh' e=>⟨p,rfl,.inr ⟨ag,⟨o,e,r⟩,q⟩⟩⟩
theorem xA {p EO MJ:Pos} {P:Addr} (iv:Nat) (hc:X.calm=true) (hr:aj 1 X.A) (hg:Gl X "min") (hm:X.mg "min" = none) (Z:Lm X.K X.mg X.base c P) (qk:X.env.code=.ref c) (hq:X.env.qual ++ "<lambda>" = q) (he:PE X e te) (hN:X.N[iv]?=some vn) (ie:X.env.kindOf vn=some .cell) (BZ:defaultsOf params X.env=([],[]):=by rfl) (uw:gG X.env scope.names []=(match X.env.cells.lookup vn with | some c=>[(vn,c)] | none=>[]):=by rfl) (JU:∀ y∈scope.names,y.2=.free->y.1=vn:=by decide +kernel) (nc:∀ (cl:List (Str×Addr)) (pm bg qi:Value) (i:Int) (t:Tok),bindArgs (Ue "<lambda>" q params (.Subscript (.Name vn p1) (.Name xn p2) p3) scope cl pm bg qi) ⟨[.int i t],[]⟩=pure [(xn,.int i t)]:=by intro _ _ _ _ _ _; rfl) (hx:scope.names.lookup xn=some .local:=by rfl) (hv:scope.names.lookup vn=some .free:=by rfl) (J':scope.isCoroutine=false:=by rfl) (BX:scope.isGenerator=false:=by rfl) (hk:scope.kind=.function:=by rfl) (fh:∀ x∈scope.names,x.2≠.cell:=by decide +kernel) (d1:(vn==("__debug__" : Str))=false:=by decide) (d2:(vn==("__classdict__" : Str))=false:=by decide) (d3:(xn==("__debug__" : Str))=false:=by decide) (JE:starEach [e] X.env = [(false,eval e X.env)]:=by rfl) :
  PE X (.Call (.Name "min" p) [e] [⟨some "key",.Lambda params (.Subscript (.Name vn p1) (.Name xn p2) p3) scope MJ,EO⟩] pos) (aFu X.K P q iv te):=by
 intro aa s σ H Q I h
 refine To (mK (u:=.builtin "min") I hg hm (by decide +kernel) ?_)
 have ZO:PA X [e] (iL te oF):=aA he aC JE
 refine callWith_kw (bh (ZO pos aa s σ H (λvs H1=>match vs with
   | [x] => ∃ (ns : List Int) (kf : Int -> Int) (u : V), G8 X.K H1 x ns /\ 0 < ns.length /\ H1 P = some (.tab q) /\ σ[iv]? = some (some u) /\ (∀ n ∈ ns, G4 X.K H1 u n (kf n)) /\
       ∀ (j:Nat) (m:Int) (H2:Hp),aD H1 H2->ns[j]?=some m->(∀ n∈ns,kf m<=kf n)->(∀ (l:Nat) (n:Int),l < j->ns[l]?=some n->kf m < kf n)->Q (.int m) H2
   | _=>False) I h) λus s1 ⟨vs,H1,I1,r1,q1⟩=>?_) (by rw [JE]; rfl) (by rw [JE]; rfl)
 match vs,r1,q1 with
 | [x],r1,q1 =>
  obtain ⟨ns,kf,u,hit,vf,hT,hu,Fs,k⟩:=q1
  obtain ⟨xv,rfl,rx⟩:=iA r1
  -- the cell of the name
  obtain ⟨m1,aad,yb⟩:=id I1.loc
  obtain ⟨uv,ru,lk⟩:=yb iv vn u hN hu (.inr (.inl ie))
  obtain ⟨cc,Ba,j?⟩:∃ cc,X.env.cells.lookup vn=some cc/\s1.heap.IsCell cc (some uv):=by
   rcases lk with ⟨z,_⟩ | ⟨_,z⟩
   ·rw [ie] at z; cases z
   ·exact z
  have Nd:closureFor scope X.env=pure [(vn,cc)]:=by
   rw [S9 λy hy z=>⟨cc,by rw [JU y hy z]; exact Ba⟩,uw,Ba]
  refine kws_cons (aDY I1 Z qk hT hq BZ Nd λf c' qi pm s2 H2 I2 sm kk hf CF=>kws_nil ?_)
  show wpAny (model X.prog X.w) X.A (call (.builtin "min") [xv] [(Str.ofString "key",.ref f)]) _ _ _
  have M6:G8 X.K H2 x ns:=by
   obtain ⟨a,rfl,z | z | ⟨kvs,z,y⟩⟩:=hit
   ·exact ⟨a,rfl,.inl (sm.jm z)⟩
   ·exact ⟨a,rfl,.inr (.inl (sm.ah z))⟩
   ·exact ⟨a,rfl,.inr (.inr ⟨kvs,sm _ _ z,y⟩)⟩
  have vy:∀ n∈ns,G4 X.K H2 u n (kf n):=λn hn=>by
   obtain ⟨h0,h1,a,xs,rfl,z | z,y⟩:=Fs n hn
   ·exact ⟨h0,h1,a,xs,rfl,.inl (sm.ah z),y⟩
   ·exact ⟨h0,h1,a,xs,rfl,.inr (sm.jm z),y⟩
  -- what stays through the loop
  obtain ⟨fo,B!,hf⟩:∃ fo:Obj,fo={ cls:=.type "function",data:=.func (Ue "<lambda>" q params (.Subscript (.Name vn p1) (.Name xn p2) p3) scope [(vn,cc)] pm (.ref c') qi) }/\s2.heap.get? f=some fo:=⟨_,rfl,hf⟩
  obtain ⟨c2,oc,N?,tq,ec,qc,DJ,O8⟩:=CF
  cases ec
  obtain ⟨HV,EW,Nb⟩:s2.heap.IsCell cc (some uv):=by
   obtain ⟨o,ho,hd⟩:=j?
   have nP:cc≠P:=λz=>by rw [z] at Ba; have:=I1.cy _ _ Ba; rw [hT] at this; cases this
   exact ⟨o,kk _ _ nP ho,hd⟩
  obtain ⟨mc,⟨oL,x?,z?,uq,Δ,rL⟩,vi⟩:=I2.nolimit
  have n0:ns[0]?=some (ns[0]):=Qb vf
  obtain ⟨t0,Y4⟩:=UE I2 (vy _ (Qe n0)) ru
  obtain ⟨pu,ou,eu,JI,_⟩:=Y4.obj
  refine yM (f:=f) (aBm (A:=X.A.in1) (I2.ok.hd hc) I2 M6 rx λIt fp Pv St s3 W Pu ig ow PQ CA ay=>?_)
  obtain ⟨h3,e3⟩:=ay
  subst e3
  refine ⟨It,fp,[It],ns.length,Pv,St,λi=>kf (ns.getD i 0),[(f,fo),(c',oc),(cc,HV),(cStatics,oL),(pu,ou)],rfl,W,ig,ow,vf,?_,?_,?_,λv h' tk hP AW=>?_⟩
  ·intro i v s4 Q4 E4 hi f? hL e?
   obtain ⟨n,t,hn,rfl⟩:=Pu i v f?
   have eg:ns.getD i 0=n:=by rw [Xm,hn]; rfl
   obtain ⟨tk,Y2⟩:=UE I2 (vy _ (Qe hn)) ru
   have Y3:kP s4.heap uv n (.int (kf n) tk):=by
    obtain ⟨p',o',e',ki,hh⟩:=Y2.obj
    rw [eu] at e'; cases e'
    rw [JI] at ki; cases ki
    exact hh _ (hL (pu,ou) (by simp))
   have rm:X.A.in1.depth < recursionLimit:=(aj.in1 hr).depth
   refine aDW (cl:=[(vn,cc)]) (c:=cc) rm ⟨mc,⟨oL,x?,z?,hL (cStatics,oL) (by simp),Δ,rL⟩,vi⟩ (by rw [<- B!]; exact hL (f,fo) (by simp)) ⟨c',oc,N?,tq,rfl,hL (c',oc) (by simp),DJ,O8⟩ (nc _ _ _ _ _ _) hx hv J' BX hk fh (by simp [List.lookup]) ⟨HV,hL (cc,HV) (by simp),Nb⟩ Y3 (λh5 XG k5=>?_) d1 d2 d3
   have:=e? h5 XG tk k5
   dsimp only at this
   rw [eg] at this
   exact this
  ·intro pr Dx hz
   have bw:∀ b o,s2.heap.get? b=some o->b≠It:=λb o e=>Qy (Qq (Qo e) PQ)
   simp only [Qx] at hz
   simp only [Ql,Qt,or_false] at Dx
   rcases Dx with rfl | rfl | rfl | rfl | rfl
   ·exact bw _ _ hf hz
   ·exact bw _ _ qc hz
   ·exact bw _ _ EW hz
   ·exact bw _ _ uq hz
   ·exact bw _ _ JI hz
  ·intro pr Dx
   simp only [Ql,Qt,or_false] at Dx
   rcases Dx with rfl | rfl | rfl | rfl | rfl
   ·exact CA _ _ hf
   ·exact CA _ _ qc
   ·exact CA _ _ EW
   ·exact CA _ _ uq
   ·exact CA _ _ JI
  ·obtain ⟨n,t,hn,rfl⟩:=Pu _ v hP
   have I3:Inv X aa σ H2 { s2 with heap:=h',toks:=tk }:=I2.kept λb o e=>AW b o (by simp; exact Qy (Qq (Qo e) PQ)) (CA b o e)
   have b1:=argBest_lt (λi=>kf (ns.getD i 0)) (ns.length - 1)
   have b2:=oO (λi=>kf (ns.getD i 0)) (ns.length - 1)
   have rj:∀ i y,ns[i]?=some y->ns.getD i 0=y:=λi y e=>by rw [Xm,e]; rfl
   refine ⟨.int n,H2,I3,⟨t,rfl⟩,k _ n H2 sm hn (λy hy=>?_) (λl y hl hy=>?_)⟩
   ·obtain ⟨i,hi⟩:=Qv.mp hy
    have:=b1.2 i (by have:=(Qa.mp hi).1; omega)
    have e1:=rj _ _ hn
    have e2:=rj _ _ hi
    show kf n<=kf y
    rw [<- e1,<- e2]; exact this
   ·have:=b2 l hl
    have e1:=rj _ _ hn
    have e2:=rj _ _ hy
    rw [<- e1,<- e2]; exact this
end
def Ld (ts:List (Addr×Str)) (H:Hp):Prop:=(∀ b,H b=none∨(∃ o xs,H b=some (.bq o (.lst xs)))∨∃ q,H b=some (.tab q)/\(b,q)∈ts)/\∀ p∈ts,H p.1=some (.tab p.2)
theorem uI {P:Addr} (C:Vc h c P) (e:h.get? P=some (Ta #[])):isCodeTable h P:=(C.tab e).isCodeTable
theorem aCX {mb:Str->Option Value} {k:Nat} {fa a:Addr} {x:Str} {cb:Shared} {vs:List Value} {ts:List (Addr×Str)} (KX:K.In cb.heap) (jg:cb.heap.Ns mainGlobals mg) (hb:cb.heap.Ns builtinsNs mb) (Ψ:∀ x:Str,x ≠ "__name__" -> mb x=bootBuiltins x) (vi:cb.heap.NoLimit) (M0:∃ mm,cb.heap.Ns sysModules mm) (hg:cb.gens = #[]) (Φ:∃ bm ob,mg "__builtins__" = some (.ref bm)/\bm≠builtinsNs/\cb.heap.get? bm=some ob/\ob.cls=.type "module" /\ ob.dict=some builtinsNs/\ob.data=.plain) (uj:∀ p∈ts,cb.heap.get? p.1=some (Ta #[])/\K.lookup p.1=none/\∃ c,Vc cb.heap c p.1) (dk:(ts.map (·.1)).Nodup) (ha:cb.heap.get? a=some { cls:=.type "list",data:=.seq vs.toArray }) (hi:IntsAre vs ns) (hl:ns.length<=sizeLine) (hr:aj k callerA) (F:∀ base:Heap,K.In base->base.Ns mainGlobals mg->(∀ p∈ts,base.BuiltinsAt mg p.1)->ae P w K mg base CX k fa fd [x] sp) (nc:∀ (s:Shared) (u:Value),BindsTo s fd ⟨[u],[]⟩ [(x,u)]) (qb:∀ H:Hp,Ld ts H->au K H a (ns.map V.int)->sp [.ref a] H (λv H'=>v=.bl true/\∀ p∈ts,H' p.1=some (.tab p.2)) λ_ _ _=>False) (Kr:∀ H e s',CX [] H cb (λ_ _ _=>False) e s'->False) :
  codeAny (model P w) callerA (.call (.ref fa) ⟨[.ref a],[]⟩) (λr s'=>r=.ok (.ret (.bool true))/\OldK cb.heap s'.heap/\s'.os=cb.os/\AllBare s'.gens) cb:=by
 have rv:=wU hi
 have ML:=hi.length
 have na:∀ p∈ts,p.1≠a:=λp hp z=>by
  have:=(uj p hp).1
  rw [z,ha] at this; cases this
 -- from an abstract heap in which nothing but the script and the tables may be tracked
 have core:∀ H:Hp,Ld ts H->au K H a (ns.map V.int)->gi P w H cb.heap->(∀ b,H b≠none->b=a∨∃ q,(b,q)∈ts)->(H a≠none->K.lookup a=none) ->
   codeAny (model P w) callerA (.call (.ref fa) ⟨[.ref a],[]⟩) (λr s'=>r=.ok (.ret (.bool true))/\OldK cb.heap s'.heap/\s'.os=cb.os/\AllBare s'.gens) cb:=by
  intro H hO hS ax hA hK
  have base_of:∀ {b:Addr} {o:Obj},cb.heap.get? b=some o->H b=none->(wA cb.heap H).get? b=some o:=λe n=>aDf e n
  have Dg:∀ {b:Addr} {o:Obj} {es:Array DictEntry} {ep:Nat},cb.heap.get? b=some o->o.data=.dict es ep->H b=none:=λ{b o es ep} e d=>by
   cases q:H b with
   | none=>rfl
   | some u =>
    rcases hA b (by rw [q]; simp) with e' | ⟨q',e'⟩
    ·subst e'
     rw [ha] at e; cases e
     have d':Data.seq vs.toArray _=Data.dict es ep:=d
     cases d'
    ·have:=(uj _ e').1
     have e2:cb.heap.get? b=some (Ta #[]):=this
     rw [e] at e2; cases e2
     have d':Data.fields _=Data.dict es ep:=d
     cases d'
  have Df:∀ {b:Addr} {m:Str->Option Value},cb.heap.Ns b m->(wA cb.heap H).Ns b m:=λ{b m} ⟨o,es,ep,e,d,r⟩=>⟨o,es,ep,base_of e (Dg e d),d,r⟩
  have PM:K.In (wA cb.heap H):=λb o e=>base_of (KX b o e) (by
   cases q:H b with
   | none=>rfl
   | some u =>
    rcases hA b (by rw [q]; simp) with e' | ⟨q',e'⟩
    ·subst e'
     rw [hK (by rw [q]; simp)] at e; cases e
    ·have:=(uj _ e').2.1
     have e2:K.lookup b=none:=this
     rw [e] at e2; cases e2)
  have Ks:∀ p∈ts,(wA cb.heap H).BuiltinsAt mg p.1:=λp hp=>by
   obtain ⟨bm,ob,b1,b2,b3,b4,b5,b6⟩:=Φ
   have hn:H bm=none:=by
    cases q:H bm with
    | none=>rfl
    | some u =>
     rcases hA bm (by rw [q]; simp) with e' | ⟨q',e'⟩
     ·subst e'
      rw [ha] at b3; cases b3
      have d':Data.seq vs.toArray _=Data.plain:=b6
      cases d'
     ·have e2:cb.heap.get? bm=some (Ta #[]):=(uj _ e').1
      rw [b3] at e2; cases e2
      have d':Data.fields _=Data.plain:=b6
      cases d'
   refine ⟨bm,ob,b1,b2,λz=>?_,λz=>?_,base_of b3 hn,b4,b5,b6⟩
   ·obtain ⟨o,es,ep,e,d,r⟩:=jg
    rw [<- z,b3] at e; cases e
    rw [b6] at d; cases d
   ·have e2:cb.heap.get? p.1=some (Ta #[]):=(uj _ hp).1
    rw [<- z,b3] at e2; cases e2
    have d':Data.fields _=Data.plain:=b6
    cases d'
  have hM:Mod K mg (wA cb.heap H):=⟨PM,Df jg,⟨mb,Df hb,Ψ⟩,let ⟨mc,h1,h2⟩:=vi; ⟨mc,Df h1,h2⟩,let ⟨mm,h1⟩:=M0; ⟨mm,Df h1⟩⟩
  have e0:ph P w K mg (wA cb.heap H) callerA [] cb H:=⟨rfl,hM,λb o e=>aEZ e,Zt (aCD _ _),trivial,λb hb=>absurd (show b∈([]:List Addr) from hb) (by simp),ax,.of_eq hg⟩
  refine Uv ((F _ PM (Df jg) Ks).run callerA [] cb H ⟨[.ref a],[]⟩ [.ref a] [.ref a] _ _ hr e0 (nc cb (.ref a)) (.cons rfl .nil) (qb H hO hS)) λr s' h=>?_
  cases r with
  | error e=>exact (Kr H e s' h).elim
  | ok fl =>
   cases fl with
   | next=>exact False.elim h
   | brk=>exact False.elim h
   | cont=>exact False.elim h
   | ret u =>
    obtain ⟨v,H',os,bare,un,EV,r',q,qt⟩:=h
    have q':v=.bl true:=q
    subst q'
    obtain rfl:u=Value.bool true:=r'
    have keep:∀ b o,(∀ q,(b,q)∉ts)->cb.heap.get? b=some o->s'.heap.get? b=some o:=λb o hb e=>by
     cases q:H b with
     | none=>exact un.keep b o e q (by intro z; exact absurd (show b∈([]:List Addr) from z) (by simp)) (by simp)
     | some u =>
      rcases hO.1 b with z | ⟨ob,xs,z⟩ | ⟨q',z,zm⟩
      ·rw [q] at z; cases z
      ·have z2:=un.gm b ob _ z
       obtain ⟨e1,_⟩:=ax b _ z
       obtain ⟨e2,_⟩:=EV b _ z2
       rw [e] at e1; cases e1
       exact e2
      ·exact absurd zm (hb q')
    have grown:∀ b o q,(b,q)∈ts->cb.heap.get? b=some o->isCodeTable cb.heap b/\o=Ta #[]/\∃ ps,s'.heap.get? b=some (Ta ps):=λb o q hm e=>by
     obtain ⟨h1,h2,c,h3⟩:=uj _ hm
     have r_:cb.heap.get? b=some (Ta #[]):=h1
     rw [e] at r_
     obtain ⟨ps,Dw,_⟩:bR P w H' s'.heap b (.tab q):=EV b _ (qt _ hm)
     exact ⟨uI h3 h1,Option.some.inj r_,ps,Dw⟩
    refine ⟨rfl,⟨λb o e=>?_,λb o e=>?_⟩,os,bare⟩
    ·by_cases hb:∃ q,(b,q)∈ts
     ·obtain ⟨q,hm⟩:=hb
      obtain ⟨ht,rfl,ps,hP⟩:=grown b o q hm e
      exact .inr (.inl ⟨ht,rfl,#[],ps,rfl,by rw [Array.empty_append]; exact hP⟩)
     ·exact .inl (keep b o (λq z=>hb ⟨q,z⟩) e)
    ·by_cases hb:∃ q,(b,q)∈ts
     ·obtain ⟨q,hm⟩:=hb
      obtain ⟨_,_,ps,hP⟩:=grown b o q hm e
      exact ⟨_,hP⟩
     ·exact ⟨o,keep b o (λq z=>hb ⟨q,z⟩) e⟩
 -- the tables
 have look:∀ {b:Addr} {q:Str},ts.lookup b=some q->(b,q)∈ts:=λ{b q} e=>by
  clear uj dk qb core na F
  induction ts with
  | nil=>cases e
  | cons p r ih =>
   rw [Jp] at e
   cases hb:b==p.1 with
   | true=>rw [hb] at e; cases e; rw [eq_of_beq hb]; exact .head _
   | false=>rw [hb] at e; exact .tail _ (ih e)
 have Aw:∀ {b:Addr} {q:Str},(b,q)∈ts->ts.lookup b=some q:=λ{b q} e=>by
  clear uj qb core na look F
  induction ts with
  | nil=>cases e
  | cons p r ih =>
   rw [Jp]
   rw [Qz,Jk] at dk
   rcases Ql.mp e with rfl | e
   ·simp
   ·have:(b==p.1)=false:=by
     rw [beq_eq_false_iff_ne]
     intro z
     exact dk.1 (Xu.mpr ⟨(b,q),e,z⟩)
    rw [this]
    exact ih dk.2 e
 have As:∀ (H:Hp) (b:Addr) (q:Str),(b,q)∈ts->bR P w H cb.heap b (.tab q):=λH b q hm=>⟨#[],(uj _ hm).1,trivial,λpos cv z=>by simp [codeAmong] at z⟩
 cases hk:K.lookup a with
 | some o =>
  have e:=KX a o hk
  rw [ha] at e
  cases e
  refine core (λb=>(ts.lookup b).map HO.tab) ⟨λb=>?_,λp hp=>by show (ts.lookup p.1).map HO.tab=_; rw [Aw (q:=p.2) hp]; rfl⟩ (.inr ⟨_,vs.toArray,_,hk,rfl,rfl,rfl,by rw [Qm,ML]; exact hl,by simpa using rv⟩) (λb u z=>?_) (λb z=>?_) λz=>?_
  ·cases q:ts.lookup b with
   | none=>exact .inl (by show (ts.lookup b).map HO.tab=none; rw [q]; rfl)
   | some y=>exact .inr (.inr ⟨y,by show (ts.lookup b).map HO.tab=_; rw [q]; rfl,look q⟩)
  ·have z':(ts.lookup b).map HO.tab=some u:=z
   cases q:ts.lookup b with
   | none=>rw [q] at z'; cases z'
   | some y=>rw [q] at z'; cases z'; exact As _ _ _ (look q)
  ·have z':(ts.lookup b).map HO.tab≠none:=z
   cases q:ts.lookup b with
   | none=>rw [q] at z'; exact absurd rfl z'
   | some y=>exact .inr ⟨y,look q⟩
  ·exfalso
   have z':(ts.lookup a).map HO.tab≠none:=z
   cases q:ts.lookup a with
   | none=>rw [q] at z'; exact absurd rfl z'
   | some y=>exact na _ (look q) rfl
 | none =>
  have noa:ts.lookup a=none:=by
   cases q:ts.lookup a with
   | none=>rfl
   | some y=>exact absurd rfl (na _ (look q))
  refine core (λb=>if b=a then some (.bq { cls:=.type "list",data:=.seq vs.toArray } (.lst (ns.map V.int))) else (ts.lookup b).map HO.tab) ⟨λb=>?_,λp hp=>?_⟩ (.inl (.inr ⟨{ cls:=.type "list",data:=.seq vs.toArray },if_pos rfl⟩)) (λb u z=>?_) (λb z=>?_) λ_=>hk
  ·by_cases hb:b=a
   ·exact .inr (.inl ⟨_,_,if_pos hb⟩)
   ·cases q:ts.lookup b with
    | none=>exact .inl ((if_neg hb).trans (by rw [q]; rfl))
    | some y=>exact .inr (.inr ⟨y,(if_neg hb).trans (by rw [q]; rfl),look q⟩)
  ·exact (if_neg (na p hp)).trans (by rw [Aw (q:=p.2) hp]; rfl)
  ·by_cases hb:b=a
   ·have z':=(if_pos hb).symm.trans z
    cases z'
    subst hb
    exact ⟨ha,by rw [Qd]; exact hl,vs,_,rv,ha⟩
   ·have z':=(if_neg hb).symm.trans z
    cases q:ts.lookup b with
    | none=>rw [q] at z'; cases z'
    | some y=>rw [q] at z'; cases z'; exact As _ _ _ (look q)
  ·by_cases hb:b=a
   ·exact .inl hb
   ·cases q:ts.lookup b with
    | none=>exact absurd ((if_neg hb).trans (by rw [q]; rfl)) z
    | some y=>exact .inr ⟨y,look q⟩
theorem aD0 {l:Vu} {k:Nat} {q:Program} {d:DefRec} {K:Params->Rb} {CX:World->Ar} {sp:World->Sp} {x:Str} {ts:List (Addr×Str)} (hn:l.most=some n) (F9:n<=sizeLine) (DI:d.params.defaults = []) (hr:aj k callerA) (hq:importsNone q=true) (hY:∀ (w:World) (h:Heap),YP w h->(K w.params).In h) (uj:∀ (w:World) (h:Heap),YP w h->∀ p∈ts,h.get? p.1=some (Ta #[])/\(K w.params).lookup p.1=none/\∃ c,Vc h c p.1) (dk:(ts.map (·.1)).Nodup) (F:∀ (w:World) (mg:Str->Option Value) (fa:Addr) (h:Heap),(K w.params).In h->h.Ns mainGlobals mg->mg d.name=some (.ref fa) ->
   ∃ fd:FuncData,(∀ (s:Shared) (u:Value),BindsTo s fd ⟨[u],[]⟩ [(x,u)]) /\
    ∀ base:Heap,(K w.params).In base->base.Ns mainGlobals mg->(∀ p∈ts,base.BuiltinsAt mg p.1)->ae l.prog w (K w.params) mg base (CX w) k fa fd [x] (sp w)) (qb:∀ (w:World) (H:Hp) (a:Addr) (ns:List Int),ns.length<=n->Ld ts H->au (K w.params) H a (ns.map V.int)->sp w [.ref a] H (λv H'=>v=.bl true/\∀ p∈ts,H' p.1=some (.tab p.2)) λ_ _ _=>False) (Kr:∀ (w:World) (H:Hp) (s:Shared) (e:Value) (s':Shared),CX w [] H s (λ_ _ _=>False) e s'->False) :
  Mx q loose XP YP l.row.toRowW d [] (λf vs=>Mq f vs):=by
 refine Wz.nz hn DI λw gq cb mg mb fa o pm cd doc a vs ns G Y ho hd ju zt BR hints hlen hg=>?_
 have KX:=hY w _ Y
 obtain ⟨fd,hb,hF⟩:=F w mg fa _ KX G.T.g zt
 exact aCX KX G.T.g G.T.b G.T.builtins G.T.nolimit (let ⟨mm,h1,_⟩:=(G.T.seer hq).mods; ⟨mm,h1⟩) hg G.T.bmain (uj w _ Y) dk BR hints (Ja hlen F9) hr hF hb (λH hO hS=>qb w H a ns hlen hO hS) λH e s'=>Kr w H cb e s'
theorem o8.Oe {x:Str} {k:Nat} (F:o8 K x qual st f fd) (hc:fd.code=.ref c) (S:af N ps (aI st)) (len:∀ vs H Q E,sp vs H Q E->vs.length=ps.length) (f':∀ (A:Around) (outer:List Env) (s:Shared) (H:Hp) (vs:List V) (Q:VK) (E:XK),aj k (A.deeper (envOfC qual (aI st) s.heap.objs.size f (.ref c)))->sp vs H Q E ->
   ∃ t,j4 (oG ao P w K mg base N qual (aI st) f (.ref c) A outer s H E).ud (eX st) t/\t { nx:=λ_ H'=>Q .br H',rt:=Q } (start N vs) H):ae P w K mg base ao (k+1) f fd ps sp:=by
 obtain ⟨oc,od,kV,doc,pm,an,bg,ct,qx,rfl,lk,ju⟩:=F.ex
 have e:bg=.ref c:=hc
 subst e
 refine K_ lk ju S len λA outer s H vs Q E hr qb=>?_
 obtain ⟨t,h,q⟩:=f' A outer s H vs Q E hr qb
 exact ⟨t,h.ud,q⟩
section
variable {z TI TO i1:Addr} {n1:Nat}
structure qm (h:Heap) (z TI TO i1 i2:Addr):Prop where
 hz:∃ f0 f1,F0 f0/\iC h z TI TO f0 f1
 ti:IsPair h TI (.ref i1) (.ref i2)
 to:∃ a b,IsPair h TO a b
theorem aAB {e:Addr} {old:Value} (D:ZipApart z TI TO i1 i2 l1 l2) (S1:Sub prog w i1 l1 n1 P1 kh) (S2:Sub prog w i2 l2 n2 P2 gv) (he:IsEnum s.heap e z i old) (Z:qm s.heap z TI TO i1 i2) (h1:kh i s.heap) (h2:gv i s.heap) (k1:i < n1) (k2:i < n2) (ne:e≠z/\e≠TI/\e≠TO/\e≠i1/\e≠i2/\e≠l1/\e≠l2) (hQ:∀ h' x y tk,P1 i x->P2 i y->IsEnumOut h' e z ((i:Int)+1) (.ref s.heap.objs.size) (s.heap.objs.size+1)->qm h' z TI TO i1 i2->kh (i+1) h'->gv (i+1) h'->IsPair h' s.heap.objs.size x y ->
   h'.get? (s.heap.objs.size+1)=some { cls:=.type "tuple",data:=.seq #[.int i tk,.ref s.heap.objs.size] } ->
   (∀ c o,c≠e->c≠z->c≠TO->c≠i1->c≠i2->s.heap.get? c=some o->h'.get? c=some o)->Q (.ref (s.heap.objs.size+1)) { s with heap:=h',toks:=s.toks+1 }) :
  wpAny (model prog w) A (Builtin.«enumerate.__next__» ⟨[.ref e],[]⟩) (λfin s'=>∃ v,fin=.done (.ret v)/\Q v s') E s:=by
 obtain ⟨⟨f0,f1,hf,hz⟩,ja,⟨a,b,jh⟩⟩:=Z
 obtain ⟨ne1,ne2,ne3,ne4,ne5,YG,IF⟩:=ne
 have DL:s.TypeIs (.ref z) "zip" := ⟨_,hz,rfl⟩
 refine Ra (m:=field (.ref e) 2) (Rk he rfl (x:=.ref z) rfl ?_)
 refine Ra (m:=Builtin.SmallTypes.nextOf (.ref z)) ?_
 unfold Builtin.SmallTypes.nextOf
 refine Ra (Rn (name:=Str.ofString "__next__") DL Tb (Rz Tb DL Ud
  (U1 D S1 S2 hz hf ja jh h1 h2 k1 k2 λg1 x y Gz Ky _ px py O5 Dr ku t1 t2 hp hsz kp=>?_) (Ua _)))
 refine Rc ?_
 have e1:IsEnum g1 e z i old:=kp _ _ ne1 ne3 ne4 ne5 he
 refine Ra (m:=field (.ref e) 3) (Rk e1 rfl (x:=rawInt i) rfl ?_)
 refine Ra (m:=field (.ref e) 4) (Rk e1 rfl (x:=.none) rfl ?_)
 refine Ra (m:=mkInt i) (wpAny_mkInt ?_)
 refine Ra (m:=setField (.ref e) 3 (rawInt ((i:Int)+1))) (Ry e1 (by simp) λg2 e2 b2=>?_)
 have lx:IsEnum g2 e z ((i:Int)+1) old:=e2
 refine Ra (m:=setField (.ref e) 4 .none) (Ry lx (by simp) λg3 e3 b3=>?_)
 have E?:IsEnum g3 e z ((i:Int)+1) old:=e3
 refine Ra (m:=newTuple [.int i s.toks,.ref s.heap.objs.size]) (Mg ?_)
 have sz:g3.objs.size=s.heap.objs.size+1:=by rw [b3.1,b2.1,hsz]
 have e4:IsEnum (g3.push { cls:=.type "tuple",data:=.seq #[.int i s.toks,.ref s.heap.objs.size] }) e z ((i:Int)+1) old:=Qc _ E?
 have T4:(g3.push { cls:=.type "tuple",data:=.seq #[.int i s.toks,.ref s.heap.objs.size] }).get? (s.heap.objs.size+1)=some { cls:=.type "tuple",data:=.seq #[.int i s.toks,.ref s.heap.objs.size] }:=by rw [<- sz]; exact Qj _ rfl
 have NK:∀ c o,c≠e->g1.get? c=some o->(g3.push { cls:=.type "tuple",data:=.seq #[.int i s.toks,.ref s.heap.objs.size] }).get? c=some o:=λc o c1 q=>Qc _ (b3.extBut _ _ c1 (b2.extBut _ _ c1 q))
 have elt:s.heap.objs.size+1≠e:=Zj (Xi (Qo he))
 have Nl:s.heap.objs.size≠e:=Zj (Qo he)
 rw [sz]
 generalize g3.push { cls:=.type "tuple",data:=.seq #[.int i s.toks,.ref s.heap.objs.size] }=g4 at e4 T4 NK ⊢
 refine Ra (m:=Builtin.SmallTypes.ownedTupleIsFree (.ref e)) ?_
 unfold Builtin.SmallTypes.ownedTupleIsFree
 refine Ra (Rk e4 rfl (x:=.none) rfl (Rc ?_))
 simp only [if_true]
 refine Ra (Ih ?_)
 refine Ra (Rk e4 rfl (x:=old) rfl ?_)
 refine Ra (Ry e4 (by simp) λg5 e5 b5=>?_)
 have E!:IsEnum g5 e z ((i:Int)+1) (.ref s.heap.objs.size):=e5
 refine Ra (m:=Builtin.SmallTypes.ownedTupleHandOut (.ref e) (.ref (s.heap.objs.size+1))) ?_
 unfold Builtin.SmallTypes.ownedTupleHandOut
 refine Ra (Ry E! (by simp) λg6 e6 b6=>?_)
 have D?:IsEnumOut g6 e z ((i:Int)+1) (.ref s.heap.objs.size) (s.heap.objs.size+1):=e6
 refine Ry D? (by simp) λg7 e7 b7=>?_
 have D!:IsEnumOut g7 e z ((i:Int)+1) (.ref s.heap.objs.size) (s.heap.objs.size+1):=e7
 have up:∀ c o,c≠e->g4.get? c=some o->g7.get? c=some o:=λc o c1 q=>b7.extBut _ _ c1 (b6.extBut _ _ c1 (b5.extBut _ _ c1 q))
 have all:∀ c o,c≠e->g1.get? c=some o->g7.get? c=some o:=λc o c1 q=>up c o c1 (NK c o c1 q)
 obtain ⟨a',b',ku⟩:=ku
 refine Ra (Uj (Rc ⟨_,rfl,hQ g7 x y s.toks px py D! ⟨⟨_,_,O5,all _ _ ne1.symm Dr⟩,all _ _ ne2.symm (kp _ _ D.TIz D.TITO D.TIi1 D.TIi2 ja),⟨_,_,all _ _ ne3.symm ku⟩⟩ (S1.keep _ _ _ t1 λc hc o q=>all c o ?_ q) (S2.keep _ _ _ t2 λc hc o q=>all c o ?_ q) (all _ _ Nl hp) (up _ _ elt T4) λc o c0 c1 c2 c3 c4 q=>all c o c0 (kp c o c1 c2 c3 c4 q)⟩))
 ·rcases hc with r | r <;> rw [r]
  ·exact ne4.symm
  ·exact YG.symm
 ·rcases hc with r | r <;> rw [r]
  ·exact ne5.symm
  ·exact IF.symm
theorem aBn {e:Addr} {old:Value} {Q:Fin->Shared->Prop} (hh:A.handled=none) (D:ZipApart z TI TO i1 i2 l1 l2) (S1:Sub prog w i1 l1 n1 P1 kh) (S2:Sub prog w i2 l2 n2 P2 gv) (he:IsEnum s.heap e z i old) (Z:qm s.heap z TI TO i1 i2) (h1:kh i s.heap) (h2:gv i s.heap) (my:i=n1/\i<=n2∨i=n2/\i < n1) (hE:∀ h' x,(∀ c o,c≠z->c≠TO->c≠i1->c≠i2->s.heap.get? c=some o->h'.get? c=some o)->(∃ o,h'.get? x=some o/\o.cls=.type "StopIteration")->E (.ref x) { s with heap:=h' }) :
  wpAny (model prog w) A (Builtin.«enumerate.__next__» ⟨[.ref e],[]⟩) Q E s:=by
 obtain ⟨⟨f0,f1,hf,hz⟩,ja,⟨a,b,jh⟩⟩:=Z
 have DL:s.TypeIs (.ref z) "zip" := ⟨_,hz,rfl⟩
 refine Ra (m:=field (.ref e) 2) (Rk he rfl (x:=.ref z) rfl ?_)
 refine Ra (m:=Builtin.SmallTypes.nextOf (.ref z)) ?_
 unfold Builtin.SmallTypes.nextOf
 exact Ra (Rn (name:=Str.ofString "__next__") DL Tb (Rz Tb DL Ud
  (US hh D S1 S2 hz hf ja jh h1 h2 my λh' x kp hx=>hE h' x kp hx) (Ua _)))
end
def Ed (K:Rb) (k1 k2:Sk) (a b:Addr):It :=
 ⟨λi H => ∃ xs ys x y, jc k1 K H a xs /\ jc k2 K H b ys /\ xs[i]? = some x /\ ys[i]? = some y,
  λi H v H'=>∃ p q,H p=none/\H q=none/\q≠p/\v=.ref q/\∀ xs ys,jc k1 K H a xs->jc k2 K H b ys->∃ x y,xs[i]?=some x/\ys[i]?=some y/\H'=upd (upd H p (.tup [x,y])) q (.tup [.int (i:Nat),.ref p]),
  λi H=>∃ xs ys,jc k1 K H a xs/\jc k2 K H b ys/\min xs.length ys.length=i⟩
theorem yN {x1} (k1 k2:Sk) (a b e z TI TO i1 i2:Addr) (D:∀ l1 l2:Addr,(∀ c∈[e,z,TI,TO,i1,i2],l1≠c)->(∀ c∈[e,z,TI,TO,i1,i2],l2≠c)->ZipApart z TI TO i1 i2 l1 l2) (ne:e≠z/\e≠TI/\e≠TO/\e≠i1/\e≠i2) :
  Turn P w K (.Tuple es x1 pos) (Ed K k1 k2 a b) [e,z,TI,TO,i1,i2] e (λi h=>(∃ old,IsEnum h e z i old)/\qm h z TI TO i1 i2/\kc k1 h i1 a i/\kc k2 h i2 b i) where
 mem:=by simp
 obj:=λi h st c hc=>by
  obtain ⟨⟨old,he⟩,⟨⟨f0,f1,hf,hz⟩,ja,⟨x,y,jh⟩⟩,h1,h2⟩:=st
  simp only [Ql,Qt,or_false] at hc
  rcases hc with rfl | rfl | rfl | rfl | rfl | rfl
  ·exact ⟨_,he,λv q=>by cases q⟩
  ·exact ⟨_,hz,λv q=>by cases q⟩
  ·exact ⟨_,ja,λv q=>by cases q⟩
  ·exact ⟨_,jh,λv q=>by cases q⟩
  ·exact h1.obj
  ·exact h2.obj
 keep:=λi h h' st k=>by
  obtain ⟨⟨old,he⟩,⟨⟨f0,f1,hf,hz⟩,ja,⟨x,y,jh⟩⟩,h1,h2⟩:=st
  exact ⟨⟨old,k e (by simp) _ he⟩,⟨⟨f0,f1,hf,k z (by simp) _ hz⟩,k TI (by simp) _ ja,⟨x,y,k TO (by simp) _ jh⟩⟩,h1.at λo e=>k i1 (by simp) o e,h2.at λo e=>k i2 (by simp) o e⟩
 item:=by
  intro X hP hw hK hc i aa s σ H E I hf st hg
  subst hP hw hK
  obtain ⟨⟨old,he⟩,Z,h1,h2⟩:=st
  obtain ⟨xs,ys,x,y,ha,hb,hx,hy⟩:=hg
  obtain ⟨ag,rv,pa⟩:=I.i6 ha
  obtain ⟨om,fu,pb⟩:=I.i6 hb
  obtain ⟨u,hu,ru⟩:=rv.get hx
  obtain ⟨v,hv,AJ⟩:=fu.get hy
  have na:∀ c∈[e,z,TI,TO,i1,i2],a≠c:=λc bz=>I.gb ha (hf c bz)
  have nb:∀ c∈[e,z,TI,TO,i1,i2],b≠c:=λc bz=>I.gb hb (hf c bz)
  have DD:=D a b na nb
  have hT:s.TypeIs (.ref e) "enumerate" := ⟨_,he,rfl⟩
  have A9:i < ag.toArray.size:=by rw [Qm]; exact (Qa.mp hu).1
  have JQ:i < om.toArray.size:=by rw [Qm]; exact (Qa.mp hv).1
  unfold pyNext
  refine Ra (Vy (Rn (name:=Str.ofString "__next__") hT Ts (Rz Ts hT Vv
   (aAB DD (Ag k1 X.prog X.w i1 a ag.toArray (na i1 (by simp))) (Ag k2 X.prog X.w i2 b om.toArray (nb i2 (by simp))) he Z ⟨h1,pa⟩ ⟨h2,pb⟩ A9 JQ
    ⟨ne.1,ne.2.1,ne.2.2.1,ne.2.2.2.1,ne.2.2.2.2,(na e (by simp)).symm,(nb e (by simp)).symm⟩ λh' u' v' tk pu pv DG Z' s1 s2 Cv ot kp=>Rc ?_) (Vq _))))
  have eu:u'=u:=by
   have q:ag[i]?=some u':=by simpa using pu
   rw [hu] at q
   exact (Option.some.inj q).symm
  have ev:v'=v:=by
   have q:om[i]?=some v':=by simpa using pv
   rw [hv] at q
   exact (Option.some.inj q).symm
  subst eu ev
  refine ⟨_,rfl,wpAny_letOwnedTupleGo_enum DG λmq JX oj=>?_⟩
  have T0:s.heap.objs.size≠e:=Zj (Qo he)
  have T1:s.heap.objs.size+1≠e:=Zj (Xi (Qo he))
  have MW:IsPair mq s.heap.objs.size u' v':=oj.extBut _ _ T0 Cv
  have MV:mq.get? (s.heap.objs.size+1)=some { cls:=.type "tuple",data:=.seq #[.int i tk,.ref s.heap.objs.size] }:=oj.extBut _ _ T1 ot
  have yc:=I.ax.fresh (Qh s.heap.objs.size)
  have DF:=I.ax.fresh (Yc s.heap.objs.size)
  have fz:=I.j8 (Qh s.heap.objs.size) yc
  have Ku:=I.j8 (Yc s.heap.objs.size) DF
  have I2:Inv X aa σ H { s with heap:=mq,toks:=s.toks+1 }:=by
   refine I.je (t':=s.toks+1) [e,z,TO,i1,i2] (λc o bz q=>?_) (λc bz=>hf c ?_)
   ·simp only [Ql,Qt,or_false,not_or] at bz
    exact oj.extBut _ _ bz.1 (kp c o bz.1 bz.2.1 bz.2.2.1 bz.2.2.2.1 bz.2.2.2.2 q)
   ·simp only [Ql,Qt,or_false] at bz ⊢
    rcases bz with r | r | r | r | r
    ·exact .inl r
    ·exact .inr (.inl r)
    ·exact .inr (.inr (.inr (.inl r)))
    ·exact .inr (.inr (.inr (.inr (.inl r))))
    ·exact .inr (.inr (.inr (.inr (.inr r))))
  have I3:Inv X aa σ (upd H s.heap.objs.size (.tup [x,y])) { s with heap:=mq,toks:=s.toks+1 }:=by
   refine I2.pj (show bR X.prog X.w _ _ _ (.tup [x,y]) from ⟨by show 2<=sizeLine; rw [Rf]; decide,[u',v'],0,.cons ru (.cons AJ .nil),MW⟩) yc fz.2.1 I.sz fz.2.2.2.2.1 fz.2.2.2.2.2
  have nn:s.heap.objs.size+1≠s.heap.objs.size:=Nat.succ_ne_self _
  have I4:Inv X aa σ (upd (upd H s.heap.objs.size (.tup [x,y])) (s.heap.objs.size+1) (.tup [.int (i:Nat),.ref s.heap.objs.size])) { s with heap:=mq,toks:=s.toks+1 }:=by
   refine I3.pj (show bR X.prog X.w _ _ _ (.tup [.int (i:Nat),.ref s.heap.objs.size]) from ⟨by show 2<=sizeLine; rw [Rf]; decide,[.int i tk,.ref s.heap.objs.size],0,.cons ⟨tk,rfl⟩ (.cons rfl .nil),MV⟩) (by rw [aF nn]; exact DF) Ku.2.1 (Ja I.sz (Yc _)) Ku.2.2.2.2.1 Ku.2.2.2.2.2
  obtain ⟨⟨g0,g1,hg,Dr⟩,Nh,⟨a',b',ku⟩⟩:=Z'
  refine ⟨.ref (s.heap.objs.size+1),_,I4,rfl,⟨s.heap.objs.size,s.heap.objs.size+1,yc,DF,nn,rfl,λFy qr Ke d9=>?_⟩,⟨⟨_,by simpa using JX⟩,⟨⟨g0,g1,hg,oj.extBut _ _ ne.1.symm Dr⟩,oj.extBut _ _ ne.2.1.symm Nh,⟨_,_,oj.extBut _ _ ne.2.2.1.symm ku⟩⟩,s1.1.at λo q=>oj.extBut _ _ ne.2.2.2.1.symm q,s2.1.at λo q=>oj.extBut _ _ ne.2.2.2.2.symm q⟩,λc bz=>?_⟩
  ·rw [I.ib Ke ha,I.ib d9 hb]
   exact ⟨x,y,hx,hy,rfl⟩
  ·have cl:c < s.heap.objs.size:=by
    obtain ⟨o,q⟩:∃ o,s.heap.get? c=some o:=by
     obtain ⟨⟨f0,f1,O5,hz⟩,ja,⟨x',y',jh⟩⟩:=Z
     simp only [Ql,Qt,or_false] at bz
     rcases bz with rfl | rfl | rfl | rfl | rfl | rfl
     ·exact ⟨_,he⟩
     ·exact ⟨_,hz⟩
     ·exact ⟨_,ja⟩
     ·exact ⟨_,jh⟩
     ·obtain ⟨o,q,_⟩:=h1.obj; exact ⟨o,q⟩
     ·obtain ⟨o,q,_⟩:=h2.obj; exact ⟨o,q⟩
    exact Qo q
   rw [aF (Qy (Xi cl)),aF (Qy cl)]
   exact (hf c bz).1
 done:=by
  intro X hP hw hK hc i aa s σ H E I hf st hg
  subst hP hw hK
  obtain ⟨⟨old,he⟩,Z,h1,h2⟩:=st
  obtain ⟨xs,ys,ha,hb,mw⟩:=hg
  obtain ⟨ag,rv,pa⟩:=I.i6 ha
  obtain ⟨om,fu,pb⟩:=I.i6 hb
  have la:=rv.length
  have lb:=fu.length
  have na:∀ c∈[e,z,TI,TO,i1,i2],a≠c:=λc bz=>I.gb ha (hf c bz)
  have nb:∀ c∈[e,z,TI,TO,i1,i2],b≠c:=λc bz=>I.gb hb (hf c bz)
  have DD:=D a b na nb
  have hT:s.TypeIs (.ref e) "enumerate" := ⟨_,he,rfl⟩
  unfold pyNext
  refine Ra (Vy (Rn (name:=Str.ofString "__next__") hT Ts (Rz Ts hT Vv
   (aBn (I.ok.hd hc) DD (Ag k1 X.prog X.w i1 a ag.toArray (na i1 (by simp))) (Ag k2 X.prog X.w i2 b om.toArray (nb i2 (by simp))) he Z ⟨h1,pa⟩ ⟨h2,pb⟩ (by rw [Qm,Qm]; omega) λh' x kp hx=>?_) (Vq _))))
  obtain ⟨oe,A0,CG⟩:=hx
  refine Ra (Rah (T := "StopIteration") (b:=true) ⟨oe,A0,CG⟩ isSubtype_stop (Rc ⟨rfl,?_⟩))
  refine I.je (t':=s.toks) [z,TO,i1,i2] (λc o bz q=>?_) (λc bz=>hf c ?_)
  ·simp only [Ql,Qt,or_false,not_or] at bz
   exact kp c o bz.1 bz.2.1 bz.2.2.1 bz.2.2.2 q
  ·simp only [Ql,Qt,or_false] at bz ⊢
   rcases bz with r | r | r | r
   ·exact .inr (.inl r)
   ·exact .inr (.inr (.inr (.inl r)))
   ·exact .inr (.inr (.inr (.inr (.inl r))))
   ·exact .inr (.inr (.inr (.inr (.inr r))))
 self:=λ_ _ _ _ _ st h=>by
  obtain ⟨⟨old,he⟩,_⟩:=st
  exact Rag he h
theorem wI (z TI TO:Addr) :
  Meets (Builtin.«enumerate.__new__» ⟨[.type "enumerate",.ref z],[]⟩) (λ_ R s=>IsZip s.heap z TI TO .none /\
   R (.ok (.ret (.ref s.heap.objs.size))) { s with heap:=s.heap.push { cls:=.type "enumerate",data:=.fields #[.none,.bool false,.ref z,rawInt 0,.none,.none] } }) :=
 .of_wp λprog w A R s h=>by
  obtain ⟨hp,g,d,tk,os⟩:=s
  obtain ⟨hl,h⟩:=h
  have ET:=sub_enumerate
  have hZ:IsZip (Shared.heap ⟨hp,g,d,tk,os⟩) z TI TO .none:=hl
  wp_walk using AutoSeq1.wpAny_loadPart' hZ
  refine wpAny_stack_any λst=>Rc ?_
  split
  ·rename_i c _ _ _ _ _
   cases (c==Value.type "enumerate")
   ·wp_walk using AutoSeq1.wpAny_loadPart' hZ,Ur hZ
    exact ⟨_,rfl,h⟩
   ·wp_walk using AutoSeq1.wpAny_loadPart' hZ,Ur hZ
    exact ⟨_,rfl,h⟩
  ·wp_walk using AutoSeq1.wpAny_loadPart' hZ,Ur hZ
   exact ⟨_,rfl,h⟩
def aD2 (K:Rb) (k1 k2:Sk) (ta:TA):TI:=λσ H R=>ta σ H λvs H1=>∃ a b xs ys,vs = [.ref a,.ref b]/\jc k1 K H1 a xs/\jc k2 K H1 b ys/\R (Ed K k1 k2 a b) H1
theorem aBo (k1 k2:Sk) {a b:Expr} {ta:TA} {p p':Pos} (hg:Gl X "enumerate") (hm:X.mg "enumerate" = none) (ν:Gl X "zip") (sx:X.mg "zip" = none) (ha:PA X [a,b] ta) (hs:starEach [a,b] X.env = [(false,eval a X.env),(false,eval b X.env)]:=by rfl) (zo:starEach [b] X.env = [(false,eval b X.env)]:=by rfl) (OS:starEach [Expr.Call (.Name "zip" p') [a,b] [] pos'] X.env = [(false,eval (.Call (.Name "zip" p') [a,b] [] pos') X.env)]:=by rfl) :
  PI X (.Tuple es x1 BB) (.Call (.Name "enumerate" p) [.Call (.Name "zip" p') [a,b] [] pos'] [] pos) (aD2 X.K k1 k2 ta):=by
 intro aa s σ H R I h
 refine Call_ (mK (u:=.type "enumerate") I hg hm (by decide +kernel) (PyProof.Rows.callWith_type1 ?_ OS rfl))
 rw [OS]
 show wpAny _ _ (spliced ((false,eval (.Call (.Name "zip" p') [a,b] [] pos') X.env)::[])) _ _ s
 refine Calls.spliced_cons ?_
 refine Call_ (mK (u:=.type "zip") I ν sx (by decide +kernel) (PyProof.Rows.callWith_type1 (bh (ha pos' aa s σ H _ I h) λus s1 ay=>?_) (by rw [hs,zo]) (by rw [zo]; rfl)))
 obtain ⟨vs,H1,I1,r1,q1⟩:=ay
 obtain ⟨l1,l2,xs,ys,rfl,hA,hB,q⟩:=q1
 obtain ⟨u1,u2,rfl,HQ,xk⟩:=rY r1
 cases HQ
 cases xk
 obtain ⟨ag,rv,pa⟩:=I1.i6 hA
 obtain ⟨om,fu,pb⟩:=I1.i6 hB
 refine Mu Mh (by decide) (Iv _ _) (Iy _ _) (λobj=>Ii obj _ _) Iz (U0 k1 k2 l1 l2 ag.toArray om.toArray) ⟨pa,pb,?_⟩
 have n1:(v_ k1 s1.heap l1).objs.size=s1.heap.objs.size+1:=Jm ..
 have n2:(za k1 k2 s1.heap l1 l2).objs.size=s1.heap.objs.size+2:=by rw [Jm,n1]
 have n3:(y_ k1 k2 s1.heap l1 l2).objs.size=s1.heap.objs.size+3:=by rw [Jm,n2]
 have n4:(Ci k1 k2 s1.heap l1 l2).objs.size=s1.heap.objs.size+4:=by rw [Jm,n3]
 have n5:(n8 k1 k2 s1.heap l1 l2).objs.size=s1.heap.objs.size+5:=by rw [Jm,n4]
 have g5:IsZip (n8 k1 k2 s1.heap l1 l2) (Ci k1 k2 s1.heap l1 l2).objs.size (za k1 k2 s1.heap l1 l2).objs.size (y_ k1 k2 s1.heap l1 l2).objs.size .none:=Qj _ rfl
 have g4:IsPair (n8 k1 k2 s1.heap l1 l2) (y_ k1 k2 s1.heap l1 l2).objs.size .none .none:=Qc _ (Qj _ rfl)
 have g3:IsPair (n8 k1 k2 s1.heap l1 l2) (za k1 k2 s1.heap l1 l2).objs.size (.ref s1.heap.objs.size) (.ref (v_ k1 s1.heap l1).objs.size):=Qc _ (Qc _ (Qj _ rfl))
 have g2:kc k2 (n8 k1 k2 s1.heap l1 l2) (v_ k1 s1.heap l1).objs.size l2 0:=(kc.new k2 (v_ k1 s1.heap l1) l2).at λo e=>Qc _ (Qc _ (Qc _ e))
 have g1:kc k1 (n8 k1 k2 s1.heap l1 l2) s1.heap.objs.size l1 0:=(kc.new k1 s1.heap l1).at λo e=>Qc _ (Qc _ (Qc _ (Qc _ e)))
 have kp:∀ c o,s1.heap.get? c=some o->(n8 k1 k2 s1.heap l1 l2).get? c=some o:=λc o e=>Qc _ (Qc _ (Qc _ (Qc _ (Qc _ e))))
 refine ⟨⟨_,g5,rfl⟩,Calls.spliced_nil ?_⟩
 rw [n1,n2,n3,n4] at *
 generalize n8 k1 k2 s1.heap l1 l2=Dq at *
 refine Mu PySem.F.called_enumerate (by decide) (PySem.F.typeCall_enumerate_1 _) (PySem.F.newCall_enumerate_1 _) (λobj=>Ij obj _) PySem.F.entry_enumerate_new (wI (s1.heap.objs.size+4) (s1.heap.objs.size+2) (s1.heap.objs.size+3)) ⟨g5,?_⟩
 have ge:IsEnum (Dq.push { cls:=.type "enumerate",data:=.fields #[.none,.bool false,.ref (s1.heap.objs.size+4),rawInt 0,.none,.none] }) Dq.objs.size (s1.heap.objs.size+4) 0 .none:=Qj _ rfl
 have AR:∀ c o,Dq.get? c=some o->(Dq.push { cls:=.type "enumerate",data:=.fields #[.none,.bool false,.ref (s1.heap.objs.size+4),rawInt 0,.none,.none] }).get? c=some o:=λc o e=>Qc _ e
 rw [n5] at ge
 show (∃ _,_)/\_
 rw [n5]
 generalize Dq.push { cls:=.type "enumerate",data:=.fields #[.none,.bool false,.ref (s1.heap.objs.size+4),rawInt 0,.none,.none] }=h6 at ge AR ⊢
 refine ⟨⟨_,ge,rfl⟩,Rag ge ?_⟩
 have I2:Inv X aa σ H1 { s1 with heap:=h6 }:=I1.kept (t':=s1.toks) λc o e=>AR c o (kp c o e)
 have d:∀ i j:Nat,i≠j->s1.heap.objs.size+i≠s1.heap.objs.size+j:=λi j h=>by omega
 refine ⟨s1.heap.objs.size+5,[s1.heap.objs.size+5,s1.heap.objs.size+4,s1.heap.objs.size+2,s1.heap.objs.size+3,s1.heap.objs.size,s1.heap.objs.size+1],_,_,H1,rfl,I2,yN k1 k2 l1 l2 _ _ _ _ _ _ ?_ ⟨d 5 4 (by decide),d 5 2 (by decide),d 5 3 (by decide),d 5 0 (by decide),d 5 1 (by decide)⟩,⟨⟨_,ge⟩,⟨⟨_,_,.inl rfl,AR _ _ g5⟩,AR _ _ g3,⟨_,_,AR _ _ g4⟩⟩,g1.at λo e=>AR _ _ e,g2.at λo e=>AR _ _ e⟩,λc hc=>?_,q⟩
 ·intro m1 m2 h1 h2
  exact ⟨d 2 4 (by decide),d 3 4 (by decide),d 0 4 (by decide),d 1 4 (by decide),d 2 3 (by decide),d 2 0 (by decide),d 2 1 (by decide),d 3 0 (by decide),d 3 1 (by decide),d 0 1 (by decide),
   h1 _ (by simp),h1 _ (by simp),h1 _ (by simp),h1 _ (by simp),h2 _ (by simp),h2 _ (by simp),h2 _ (by simp),h2 _ (by simp)⟩
 ·have bz:s1.heap.objs.size<=c:=by
   simp only [Ql,Qt,or_false] at hc
   rcases hc with r | r | r | r | r | r <;> rw [r]
   all_goals first | exact Qh _ | exact Xo _ _
  exact I1.j8 bz (I1.ax.fresh bz)
theorem aAC {k1 k2:Sk} {a b:Addr} {tb:TS} {D:Ends} {σ:St} (Pv:Nat->St->Hp->Prop) (heq:xs.length=ys.length) (h0:Pv 0 σ H) (hl:∀ i σ H,i<=xs.length->Pv i σ H->jc k1 K H a xs/\jc k2 K H b ys) (hs:∀ i x y p q σ H,xs[i]?=some x->ys[i]?=some y->Pv i σ H->H p=none->H q=none->q≠p->g (.ref q) σ (upd (upd H p (.tup [x,y])) q (.tup [.int (i:Nat),.ref p])) λaz H2=>tb { D with nx:=Pv (i+1),ct:=Pv (i+1),bk:=D.nx } az H2) (hd:∀ σ H,Pv xs.length σ H->D.nx σ H) :
  ∃ W:Nat->Nat->St->Hp->Prop,(∃ m,W 0 m σ H)/\∀ i m σ H,W i m σ H ->
   ((Ed K k1 k2 a b).stop i H/\D.nx σ H)∨((Ed K k1 k2 a b).go i H/\∃ N:St->Hp->Prop,(∀ ak H',N ak H'->∃ m',m' < m/\W (i+1) m' ak H')/\∀ x H',(Ed K k1 k2 a b).pw i H x H'->g x σ H' λaz H2=>tb { D with nx:=N,ct:=N,bk:=D.nx } az H2):=by
 refine ⟨λi m σ H=>m=xs.length - i/\i<=xs.length/\Pv i σ H,⟨xs.length,by simp,Jt _,h0⟩,?_⟩
 rintro i m σ H ⟨rfl,hi,p⟩
 obtain ⟨q1,q2⟩:=hl i σ H hi p
 by_cases bw:i < xs.length
 ·refine .inr ⟨⟨xs,ys,xs[i],ys[i]'(by omega),q1,q2,Qb bw,Qb (by omega)⟩,Pv (i+1),λak H' p'=>⟨xs.length - (i+1),by omega,rfl,bw,p'⟩,λx H' y=>?_⟩
  obtain ⟨p1,k_,Cv,JF,ff,rfl,hy⟩:=y
  obtain ⟨x,y,h1,h2,rfl⟩:=hy xs ys q1 q2
  exact hs i x y p1 k_ σ H h1 h2 p Cv JF ff
 ·have e:i=xs.length:=by omega
  subst e
  exact .inl ⟨⟨xs,ys,q1,q2,by rw [<- heq,Zu]⟩,hd σ H p⟩
end L2
namespace L2
open PySem
section
variable {γ δ ε ζ η θ ι:Type}
end
end L2
namespace L2
open PySem PySem.Spec PyProof.Rows
section
variable {own:Nat} {σ:St}
end
section
variable {a:Addr}
end
section
variable {S:Addr} {es:Array (Int×Value)} {t:SetTable}
end
open PySem.AutoSeq1 (wpAny_loadPart')
section
variable {z TI TO i1 i3 l3:Addr} {n3:Nat} {P3:Nat->Value->Prop} {xg:Nat->Heap->Prop}
end
section
variable (k1 k2 k3:Sk) (h:Heap) (a b d:Addr)
end
section
variable {own:Nat} {σ:St}
end
def HA (P:α->V->V->Hp->(α->Hp->Prop)->Prop) (tk tv:TE) (ys:α) (σ:St) (H:Hp) (R:α->St->Hp->Prop):Prop:=tk σ H λx H4=>tv σ H4 λy H5=>P ys x y H5 λa H=>R a σ H
def RJ (kx vx:Expr) (env:Env) (D:Addr):Sem Unit:=do
 let kv<-eval kx env
 let vv<-holding [kv] (eval vx env)
 standAt { kx.pos with endLine:=vx.pos.endLine,endCol:=vx.pos.endCol }
 holding [kv,vv] (dictSet D kv vv)
section
variable {a0:α} {Ok:Addr->α->Heap->Prop}
theorem aH1:gc P w A (.DictComp kx vx [⟨tg,iter,ifs,0⟩] scope pos) 0 tg iter ifs (RJ kx vx) where
 FC:=λ_ _ _=>⟨rfl,rfl⟩
 turn:=λit D env=>compTurn_dict kx vx tg iter ifs scope pos it D env
 start:=codeAny_compStart_dict
theorem aH2 {Y:Cx} {p:α->V->V->Hp->(α->Hp->Prop)->Prop} (AO:gk Y.prog Y.w Y.A newDict a0 Ok) (hk:PE Y kx tk) (he:PE Y vx tv) (st:∀ {D:Addr} {a:α} {s:Shared} {H:Hp} {x y:V} {kv vv:Value} {R:α->Hp->Prop},gi Y.prog Y.w H s.heap->Ok D a s.heap->bQ x kv->bQ y vv->p a x y H R->wpAny (model Y.prog Y.w) Y.A (dictSet D kv vv) (λ_ s'=>∃ h' tk a',s'={ s with heap:=h',toks:=tk }/\Heap.SameBut D s.heap h'/\Ok D a' h'/\R a' H) Y.xe s) :
  pD Y (RJ kx vx) Ok (HA p tk tv):=by
 intro ps s σ H D o ys R dn I pl h
 refine Ra (bh (hk _ s σ H _ I h) λkv s1 hx=>?_)
 obtain ⟨xv,H1,I1,r1,q1⟩:=hx
 refine Ra (Rx (bh (he _ s1 σ H1 _ I1 q1) λvv s2 hx=>?_))
 obtain ⟨yv,H2,I2,r2,q2⟩:=hx
 refine Ra (Va (Rx (bh (st I2.ax (AO.d_ I I2 pl) r1 r2 q2) λ_ s3 hx=>?_)))
 obtain ⟨h',tk,a',rfl,sb,ok,r⟩:=hx
 obtain ⟨o',I'⟩:=dn.put (t:=tk) AO I2 sb ok
 exact ⟨σ,H2,a',o',I',ok,r⟩
end
def VQ (ys:List (Key×V)) (x y:V) (H:Hp) (R:List (Key×V)->Hp->Prop):Prop:=∃ k,x=kV k/\ys.length < sizeLine/\R (eQ ys k y) H
def OkK (P:Program) (w:World) (D:Addr) (ys:List (Key×V)) (h:Heap):Prop:=ys.length<=sizeLine/\∃ ag,KV ys ag/\h.DictOf (bF P w) D ag
def aH3:Obj:={ cls:=.type "dict",dict:=none,data:=.dict #[] }
theorem Sd:gk P w A newDict [] (OkK P w) where
 new:=⟨aH3,λv z=>(by cases z),rfl,λh D e=>⟨Jt _,[],.nil,⟨_,#[],0,e,⟨rfl,rfl,rfl⟩,rfl,λ_ he=>(by simp at he),Pairs.nil,Wk⟩⟩,λh=>Rq h⟩
 keep:=λ⟨hl,ag,v,d⟩ k=>⟨hl,ag,v,d.at k⟩
 obj:=λ⟨_,_,_,o,es,ep,h1,h2,h3,_⟩=>⟨o,h1,λv z=>by rw [h3] at z; cases z⟩
def aG8 (own:Nat) (fr:List Nat) (wi:TI) (g:TG) (tt:TT) (tk tv:TE):TE:=λσ H Q=>wi σ H λJ H1=>jv J [] (d7 own fr σ) H1 (λys _ H=>∀ p,H p=none->Q (.ref p) (upd H p (.dK ys))) g tt (HA VQ tk tv)
section
variable {wi:TI}
theorem VM (S:bx X scope z own fr bo) (hc:X.calm=true) (hi:PI X tg iter wi) (hg:∀ C s0 H0 fp,PG (bX X scope z (own++bo) C s0 H0 fp) tg g) (ht:∀ C s0 H0 fp,PF (bX X scope z (own++bo) C s0 H0 fp) ifs tt)
  (hk:∀ C s0 H0 fp,PE (bX X scope z (own++bo) C s0 H0 fp) kx tk) (he:∀ C s0 H0 fp,PE (bX X scope z (own++bo) C s0 H0 fp) vx tv) (hs:∀ x,foldedSetIterable iter X.env x=pure x:=by intro _; rfl) :
  PE X (.DictComp kx vx [⟨tg,iter,ifs,0⟩] scope pos) (aG8 own.length fr wi g tt tk tv) :=
 U3 S rfl aH1 Sd hc (arm_eval_DictComp ..) hi hg ht (λC s0 H0 fp=>aH2 Sd (hk C s0 H0 fp) (he C s0 H0 fp) λ{D a s H x y kv vv R} _ ⟨hl,ag,v,d⟩ r1 r2 ⟨k,ek,lt,q⟩=>by
  subst ek
  have jt:=v.length
  exact wpAny_dictSet_pairs (knd:=bF X.prog X.w) (qC r1) d (λGs BG BD=>⟨Gs,_,_,rfl,BD,⟨Ja (gJ _ _ _) lt,_,v.put k r2,BG⟩,q⟩) (by rw [<- jt]; exact Jh lt)) hs
  λ⟨hl,ag,v,d⟩ hn hm q=>⟨.dK _,⟨hl,hm,ag,v,d⟩,q _ hn⟩
end
def XN (t:TE):TE:=λσ H Q=>∃ P:V->Hp->Prop,t σ H P/\∀ x H1,P x H1->Q x H1
def aG9 (H0:Hp) (t:TE):TE:=λσ H Q=>t σ H λx H'=>∃ a o kvs,H' a=some (.bq o (.dK kvs))/\NF H0 a/\Q x (upd H' a (.dK kvs))
def TF (own:Nat) (fr:List Nat) (td:TE) (g:TG) (tt:TT) (te:TE):TE:=λσ H Q=>td σ H λx H1=>∃ a kvs,x=.ref a/\H1 a=some (.dK kvs)/\∀ o:Obj,jv (sk a o kvs) [] (d7 own fr σ) (upd H1 a (.bq o (.dK kvs))) (λys _ H=>∀ p,H p=none->Q (.ref p) (upd (upd H p (.lst ys)) a (.dK kvs))) g tt (oi te)
section
variable {d:Expr} {t:TE}
theorem Li (h:PE X e t):PE X e (XN t):=by
 intro aa s σ H Q I q
 obtain ⟨P,h1,h2⟩:=q
 refine bh (h aa s σ H P I h1) λv s1 hx=>?_
 obtain ⟨x,H1,I1,r1,q1⟩:=hx
 exact ⟨x,H1,I1,r1,h2 _ _ q1⟩
theorem yO (h:PE X e t):PE X e (aG9 X.t_ t):=by
 intro aa s σ H Q I q
 refine bh (h aa s σ H _ I q) λv s1 hx=>?_
 obtain ⟨x,H1,I1,r1,a,o,kvs,ea,nf,k⟩:=hx
 exact ⟨x,_,I1.EJ ea nf,r1,k⟩
theorem mY (S:bx X scope z own fr bo) (hc:X.calm=true) (hi:PE X d td) (hg:∀ C s0 H0 fp,PG (bX X scope z (own++bo) C s0 H0 fp) tg g) (ht:∀ C s0 H0 fp,PF (bX X scope z (own++bo) C s0 H0 fp) ifs tt)
  (he:∀ C s0 H0 fp,PE (bX X scope z (own++bo) C s0 H0 fp) elt te) (hs:∀ x,foldedSetIterable d X.env x=pure x:=by intro _; rfl) :
  PE X (.ListComp elt [⟨tg,d,ifs,0⟩] scope pos) (TF own.length fr td g tt te):=by
 intro aa s σ H Q I h
 refine yO (gD S hc (qH (Li hi)) hg ht he hs) aa s σ H Q I ⟨_,h,λx H1 q=>?_⟩
 obtain ⟨a,kvs,ex,hx,k⟩:=q
 refine ⟨a,kvs,ex,hx,λo nf=>?_⟩
 obtain ⟨W,w0,wk⟩:=k o
 refine ⟨W,w0,λi m ys ak H' w=>?_⟩
 rcases wk i m ys ak H' w with ⟨st,q⟩ | z
 ·refine .inl ⟨st,λp hp=>⟨a,o,kvs,?_,nf,q p hp⟩⟩
  rw [aF (λz=>by rw [<- z,st.1] at hp; cases hp)]
  exact st.1
 ·exact .inr z
end
theorem nR {a:Addr} {own:Nat} {σ:St} {Q:Hp->List V->Prop} (SH:St->Prop) (Pv:Nat->List V->Hp->Prop) (hn:kvs.length<=sizeLine) (gw:SH (d7 own fr σ)) (h0:Pv 0 [] H) (hlen:∀ i ys H,Pv i ys H->ys.length<=i) (hl:∀ i ys H,Pv i ys H->H a=some (.bq o (.dK kvs))) (hs:∀ i ys σ p H,kvs[i]?=some p->SH σ->Pv i ys H->ys.length < sizeLine->g (kV p.1) σ H λaz H2=>tt az H2 λb H3=>if b=true then te az H3 λy H4=>ys.length < sizeLine/\SH az/\Pv (i+1) (ys++[y]) H4 else SH az/\Pv (i+1) ys H3) (hd:∀ ys H,Pv kvs.length ys H->Q H ys) :
  jv (sk a o kvs) [] (d7 own fr σ) H (λys _ H=>Q H ys) g tt (oi te):=by
 refine lS kvs.length hn SH Pv gw h0 hlen (λys H p=>⟨hl _ _ _ p,rfl⟩) (λi ys H hi p=>⟨hl _ _ _ p,hi⟩) (λi ys σ x H H' hi sh p y hz=>?_) hd
 obtain ⟨rfl,v,hv,rfl⟩:=y
 exact hs i ys σ v _ hv sh p hz
theorem aCY {a:Addr} {own:Nat} {σ:St} {Q:Hp->List (Key×V)->Prop} (SH:St->Prop) (Pv:Nat->List (Key×V)->Hp->Prop) (hn:xs.length<=sizeLine) (gw:SH (d7 own fr σ)) (h0:Pv 0 [] H) (hlen:∀ i ys H,Pv i ys H->ys.length<=i) (hl:∀ i ys H,Pv i ys H->aq K H a xs) (hs:∀ i ys σ x H,xs[i]?=some x->SH σ->Pv i ys H->ys.length < sizeLine->g x σ H λaz H2=>tt az H2 λb H3=>if b=true then tk az H3 λx H4=>tv az H4 λy H5=>∃ k,x=kV k/\ys.length < sizeLine/\SH az/\Pv (i+1) (eQ ys k y) H5 else SH az/\Pv (i+1) ys H3) (hd:∀ ys H,Pv xs.length ys H->Q H ys) :
  jv (An K a) [] (d7 own fr σ) H (λys _ H=>Q H ys) g tt (HA VQ tk tv) :=
 UQ xs.length SH Pv gw h0 (λys H p=>⟨xs,hl _ _ _ p,Qh _⟩) (λi ys H hi p=>⟨xs,xs[i],hl _ _ _ p,Qb hi⟩) (λi ys σ x H H' hi sh p y=>by
  obtain ⟨e,y⟩:=y
  subst e
  exact hs i ys σ x _ (y xs (hl _ _ _ p)) sh p (by have:=hlen i ys _ p; omega)) hd
section
variable {d:Addr} {es:Array DictEntry}
end
section
variable {σ:St} {a:Addr}
end
section
variable {ek ev:Expr}
end
abbrev KE:=List Key×Addr×V
section
variable {wi:TI}
end
section
variable {d:Expr} {t:TE}
end
section
variable {d v:Addr} {es:Array DictEntry}
end
section
variable {o:Expr} {p:Pos}
end
section
variable {a:Addr}
end
section
variable {wi:TI} {U:List Int}
end
section
variable {d:Expr}
end
section
variable {σ:St}
end
end L2
namespace L2
open PySem PySem.Spec PyProof.Rows PyProof.V
def Lq:List (TE×TE)->St->Hp->(List (V×V)->Hp->Prop)->Prop
 | [],_,H,Q=>Q [] H
 | (tk,tv)::r,σ,H,Q=>tk σ H λx H1=>tv σ H1 λy H2=>Lq r σ H2 λps H3=>Q ((x,y)::ps) H3
abbrev VV:List (V×V)->List (Value×Value)->Prop:=Paired λp q=>bQ p.1 q.1/\bQ p.2 q.2
def Hd (X:Cx) (pos:Pos) (keys:List (Option Expr)) (values:List Expr) (xc:List (TE×TE)):Prop :=
 ∀ (aa:List (Addr×Obj)) (s:Shared) (σ:St) (H:Hp) (Q:List (V×V)->Hp->Prop),Inv X aa σ H s->Lq xc σ H Q ->
  wpAny (model X.prog X.w) X.A (evalPairs (pairTrees keys values X.env pos)) (λvs s'=>∃ ps H',Inv X aa σ H' s'/\VV ps vs/\Q ps H') X.xe s
theorem aFv:Hd X pos [] [] []:=λaa s σ H Q I h=>pairTrees_nil_walk ⟨[],H,I,.nil,h⟩
theorem uJ {k v:Expr} {ks:List (Option Expr)} {vs:List Expr} {xc:List (TE×TE)} (hk:PE X k tk) (hv:PE X v tv) (hr:Hd X pos ks vs xc) :
  Hd X pos (some k::ks) (v::vs) ((tk,tv)::xc):=λaa s σ H Q I h =>
 pairTrees_cons_walk (bh (hk aa s σ H _ I h) λu s1 ⟨x,H1,I1,rx,q1⟩=>bh (hv aa s1 σ H1 _ I1 q1) λw2 s2 ⟨y,H2,I2,ry,q2⟩ =>
  bh (hr aa s2 σ H2 _ I2 q2) λws s3 ⟨ps,H3,I3,rel,q3⟩=>⟨(x,y)::ps,H3,I3,.cons ⟨rx,ry⟩ rel,q3⟩)
def uK (kvs more:List (Key×V)):List (Key×V):=more.foldl (λacc kv=>eQ acc kv.1 kv.2) kvs
theorem KV.merge:∀ {more:List (Key×V)} {rs:List (Key×Value)} {kvs:List (Key×V)} {vs:List (Key×Value)},KV more rs->KV kvs vs->KV (uK kvs more) (merged vs rs):=by
 intro more rs kvs vs r
 unfold KV at r
 induction r generalizing kvs vs with
 | nil=>intro q; exact q
 | @cons p q ps qs h t ih =>
  intro r0
  have e:KV (eQ kvs p.1 p.2) (stored vs q.1 q.2):=by
   have:=r0.put p.1 h.2
   rw [<- h.1]; exact this
  exact ih e
theorem oP:∀ (more kvs:List (Key×V)),(uK kvs more).length<=kvs.length+more.length
 | [],kvs=>by show kvs.length<=kvs.length+0; omega
 | p::r,kvs=>by
  have h1:=oP r (eQ kvs p.1 p.2)
  have h2:=gJ kvs p.1 p.2
  show (uK (eQ kvs p.1 p.2) r).length<=_
  rw [Jo]; omega
theorem uL:∀ {kvs:List (Key×V)} {ws:List (Value×Value)},VV (kvs.map λkv=>(kV kv.1,kv.2)) ws->∃ rs,Carries (bF P w) ws rs/\KV kvs rs
 | [],_,r=>by rw [Xt] at r; cases r; exact ⟨[],True.intro,.nil⟩
 | p::kvs,_,r=>by
  rw [Qz] at r
  cases r with
  | @cons a b as bs h t =>
   obtain ⟨rs,c,q⟩:=uL t
   obtain ⟨b1,b2⟩:=b
   exact ⟨(p.1,b2)::rs,⟨qC h.1,rfl,c⟩,.cons ⟨rfl,h.2⟩ q⟩
def aH5 (xc:List (TE×TE)):TE:=λσ H Q=>∀ p,H p=none->Lq xc σ (upd H p (.dK [])) λps H2=>H2 p=some (.dK [])/\∃ kvs:List (Key×V),ps=kvs.map (λkv=>(kV kv.1,kv.2))/\kvs.length<=15/\Q (.ref p) (upd H2 p (.dK (uK [] kvs)))
theorem aFw {keys:List (Option Expr)} {values:List Expr} {xc:List (TE×TE)} (h:Hd X pos keys values xc) (B2:keys.all (·.isSome)=true) (hl:keys.length=values.length) (h0:keys≠[]) (n?:keys.length<=15):PE X (.Dict keys values pos) (aH5 xc):=by
 intro aa s σ H Q I q
 have hn:=I.ax.fresh (Qh s.heap.objs.size)
 have I1:=I.laid (a:=s.heap.objs.size) (o:=.dK []) (h':=s.heap.push { cls:=.type "dict",data:=.dict #[] }) (t':=s.toks) (λ_ _ q=>Qc _ q) (Qh _) (uF s.heap I.big)
 refine wpAny_Dict_walk (knd:=bF X.prog X.w) B2 hl h0 n? (bh (h aa _ σ _ _ I1 (q _ hn)) λws s2 ⟨ps,H2,I2,rel,e,kvs,ep,lk,q2⟩=>?_)
 subst ep
 obtain ⟨rs,c,rk⟩:=uL (P:=X.prog) (w:=X.w) rel
 obtain ⟨z,hd,vs0,r0,dd⟩:=Lf I2.ax e
 cases r0
 refine ⟨rs,c,dd,λh' ly hs=>⟨.ref s.heap.objs.size,_,?_,rfl,q2⟩⟩
 have hz:(uK [] kvs).length<=sizeLine:=by
  have h1:=oP kvs []
  rw [List.length_nil] at h1
  rw [Rf]; omega
 have he:∃ q,h'.get? s.heap.objs.size=some q:=let ⟨q,_,_,hq,_⟩:=ly; ⟨q,hq⟩
 exact qG I2 (by rw [e]; exact True.intro) hs he (uE hz hd (rk.merge .nil) ly)
structure M1 (X:Cx) (o:Expr) (m:Str) (apos:Pos) (e:Expr) (c_:Pos):Prop where
 base:attributeBase o m X.env (eval o X.env)=eval o X.env
 j2:((backTo c_ (starEach [e] X.env)).all (λx=>!x.1) && (backToKw c_ (keywordEach [] X.env)).all (λx=>x.1.isSome)
  && decide (([e]:List Expr).length+([]:List Keyword).length+(if ([]:List Keyword).isEmpty then 0 else 1) < 30))=true
 line:(apos.endLine==c_.line)=true
 trees:backTo c_ (starEach [e] X.env) = [(false,eval e X.env)]
def V4 (H:Hp) (a:Addr):Prop:=(∃ kvs,Rd H a (.dK kvs))∨∃ kvs,Rd H a (.dT kvs)
theorem aHa {σ:St} {a:Addr} (I:Inv X aa σ H s) (d:V4 H a) :
  s.TypeIs (.ref a) "dict" /\ (∀ b,Value.ref a=.ref b->∃ ob,s.heap.get? b=some ob/\ob.dict=none)/\(a==sysModules)=false:=by
 rcases d with ⟨kvs,e⟩ | ⟨kvs,e⟩
 ·obtain ⟨_,hd,vs,_,dd⟩:=jC I.ax e
  refine ⟨dd.typeIs,λb q=>?_,hd⟩
  cases q
  obtain ⟨ob,_,_,h1,h2,_⟩:=dd
  exact ⟨ob,h1,h2.2.1⟩
 ·obtain ⟨_,hd,xs,_,dd⟩:=wZ I.ax e
  refine ⟨dd.typeIs,λb q=>?_,hd⟩
  cases q
  obtain ⟨ob,_,_,h1,h2,_⟩:=dd
  exact ⟨ob,h1,h2.2.1⟩
section
variable {σ:St} {a:Addr} {d:V} {r:Value} {o:Option V}
end
def aHb (td ty:TE):TE:=λσ H Q=>td σ H λx H1=>∃ a,x=.ref a/\V4 H1 a/\ty σ H1 λy H2=>∃ kvs k v,H2 a=some (.dK kvs)/\y=kV k/\bW kvs k=some v/\Q v (upd H2 a (.dK (qB kvs k)))
section
variable {o f:Expr} {ty tx:TE}
theorem uM (ho:PE X o td) (he:PE X e ty) (m:M1 X o "pop" apos e c_):PE X (.Call (.Attribute o "pop" apos) [e] [] c_) (aHb td ty):=by
 intro aa s σ H Q I h
 refine wpAny_Call_method m.base m.j2 m.line Ti Ma PySem.F.type_dict_pop (bh (ho aa s σ H _ I h) λu s1 ⟨x,H1,I1,rx,a,ex,d,q1⟩=>?_)
 subst ex
 obtain rfl:u=Value.ref a:=rx
 obtain ⟨t1,t2,_⟩:=aHa I1 d
 refine ⟨t1,t2,?_⟩
 rw [m.trees]
 refine Calls.callWith_builtin rfl (Calls.evalArgs_plain (Calls.spliced_cons (bh (he aa s1 σ H1 _ I1 q1) λiv s2 ⟨y,H2,I2,ry,kvs,k,v,ea,ey,l,q2⟩=>Calls.spliced_nil ?_)))
 subst ey
 exact aHV I2 ea ry l (.inl rfl) λw' s3 I3 fu=>⟨v,_,I3,fu,q2⟩
end
section
variable {σ:St} {a:Addr}
theorem aD5 (I:Inv X aa σ H s) (e:Rd H a (.dK kvs)) (h:∀ p s',H p=none->Inv X aa σ (upd H p (.dK kvs)) s'->Q (.ref p) s'):wpAny (model X.prog X.w) A (call (.type "dict") [.ref a]) Q E s:=by
 obtain ⟨z,hd,vs,rel,dd⟩:=jC I.ax e
 refine kt_call_dict hd dd (by rw [<- rel.length]; exact z) λh' ly hs=>?_
 refine h _ _ (I.ax.fresh (Qh _)) (I.laid (a:=s.heap.objs.size) (o:=.dK kvs) (t':=s.toks) (λb q hq=>?_) (Qh _) (uE z (beq_eq_false_iff_ne.mpr (Ne.symm (Qy I.big))) rel ly))
 exact (hs.2 b (Qy (Qo hq))).trans (Qc _ hq)
end
theorem lA:eT X (.builtin "len") (λxs H Q=>∃ a kvs,xs = [V.ref a]/\H a=some (.dK kvs)/\Q (.int kvs.length) H):=by
 intro aa s σ H xs us Q I r h
 obtain ⟨a,kvs,rfl,ha,q⟩:=h
 obtain ⟨u,rfl,ru⟩:=iA r
 cases ru
 exact aHW I (.inl ha) λt s' I'=>⟨.int kvs.length,H,I',⟨t,rfl⟩,q⟩
end L2
namespace L2
open PySem PySem.Spec PyProof.Rows PySem.W
def jw (p d:Addr):HO:=.ext λh=>h.IsValuesView p d
theorem aH6 {d:Addr} (v:h.IsValuesView p d):bR P w H h p (jw p d) :=
 ⟨v,let ⟨o,ho,_⟩:=v; ⟨o,ho⟩,λh1 h2 ⟨o,ho,r⟩ k=>⟨o,k o ho,r⟩⟩
theorem lB:ym X "dict.values" (λx vs H Q=>∃ (a:Addr) (kvs:List (Key×V)),x=.ref a/\vs = []/\Rd H a (.dK kvs)/\∀ p,H p=none->Q (.ref p) (upd H p (jw p a))):=by
 intro aa s σ H x vs v us Q I rx rv h
 obtain ⟨a,kvs,rfl,rfl,e,q⟩:=h
 cases rx
 cases rv
 obtain ⟨z,hd,xs,rel,dd⟩:=jC I.ax e
 refine call_meetsIn Th dd.typeIs PySem.F.entry_dict_values (PySem.F.args_dict_values_1 _) (meets_dict_values (bF X.prog X.w) a hd) ⟨⟨_,dd⟩,?_⟩
 have hf:=I.ax.fresh (Qh s.heap.objs.size)
 have I2:Inv X aa σ (upd H s.heap.objs.size (jw s.heap.objs.size a)) { s with heap:=s.heap.push { cls:=.type "dict_values",data:=.fields #[.ref a] } } :=
  I.laid (t':=s.toks) (λb o e=>Qc _ e) (Qh _) (aH6 ⟨_,Qj _ rfl,rfl,rfl⟩)
 exact ⟨.ref s.heap.objs.size,_,I2,rfl,q _ hf⟩
theorem Lp {vs:List (Key×Value)} (r:KV kvs vs) {q:Key×Value} (h:vs[i]?=some q):∃ p,kvs[i]?=some p/\p.1=q.1/\bQ p.2 q.2:=by
 unfold KV at r
 induction r generalizing i with
 | nil=>simp at h
 | cons h1 _ ih =>
  cases i with
  | zero=>simp only [List.getElem?_cons_zero,Option.some.injEq] at h ⊢; subst h; exact ⟨_,rfl,h1⟩
  | succ j=>simp only [List.getElem?_cons_succ] at h ⊢; exact ih h
theorem uN {vs:List (Key×Value)} (r:KV kvs vs) {acc:Array Value} (h:ItemsOf (λi v=>∃ k,vs[i]?=some (k,v)) acc vs.length):bH (kvs.map (·.2)) acc.toList:=by
 refine yC (by rw [Qd,show acc.toList.length=vs.length from (Array.length_toList).trans h.1]; exact r.length) λj x u hx hu=>?_
 obtain ⟨k,hk⟩:=h.2 j u (by rw [<- Array.getElem?_toList]; exact hu)
 obtain ⟨p,hp,_,rp⟩:=Lp r hk
 rw [Qi,hp] at hx
 cases hx
 exact rp
theorem uO {vs:List (Key×Value)} (r:KV kvs vs) {acc:Array Value} (h:ItemsOf (λi v=>∃ k x,vs[i]?=some (k,x)/\(bF P w).is k v=true) acc vs.length):bH (kvs.map λkv=>kV kv.1) acc.toList:=by
 refine yC (by rw [Qd,show acc.toList.length=vs.length from (Array.length_toList).trans h.1]; exact r.length) λj x u hx hu=>?_
 obtain ⟨k,y,hk,hi⟩:=h.2 j u (by rw [<- Array.getElem?_toList]; exact hu)
 obtain ⟨p,hp,ek,_⟩:=Lp r hk
 rw [Qi,hp] at hx
 cases hx
 show bQ (kV p.1) u
 rw [ek]
 exact uG hi
theorem jL (hc:X.calm=true):eT X (.type "list") (λxs H Q=>∃ (a:Addr) (kvs:List (Key×V)),xs = [.ref a]/\Rd H a (.dK kvs)/\∀ p,H p=none->Q (.ref p) (upd H p (.lst (kvs.map λkv=>kV kv.1)))):=by
 intro aa s σ H xs us Q I r h
 obtain ⟨a,kvs,rfl,e,q⟩:=h
 obtain ⟨u,rfl,ru⟩:=iA r
 cases ru
 obtain ⟨z,hd,vs,rel,dd⟩:=jC I.ax e
 obtain ⟨ep,da⟩:=dd.dictAt
 refine kdl_call (kdl_dict (prog:=X.prog) (w:=X.w) (knd:=bF X.prog X.w) (kvs:=vs) (ep:=ep) hd) (I.ok.hd hc) da (by rw [<- rel.length]; exact z) λh' tk acc c' kp hl hi=>?_
 exact ⟨.ref s.heap.objs.size,_,I.laid (t':=tk) kp (Qh _) (show bR X.prog X.w _ h' _ (.lst _) from ⟨by rw [Qd]; exact z,acc.toList,c',uO rel hi,hl⟩),rfl,q _ (I.ax.fresh (Qh _))⟩
theorem uP (hc:X.calm=true):eT X (.type "list") (λxs H Q=>∃ (v a:Addr) (kvs:List (Key×V)),xs = [.ref v]/\H v=some (jw v a)/\Rd H a (.dK kvs)/\∀ p,H p=none->Q (.ref p) (upd H p (.lst (kvs.map (·.2))))):=by
 intro aa s σ H xs us Q I r h
 obtain ⟨v,a,kvs,rfl,ev,e,q⟩:=h
 obtain ⟨u,rfl,ru⟩:=iA r
 cases ru
 obtain ⟨z,hd,vs,rel,dd⟩:=jC I.ax e
 obtain ⟨ep,da⟩:=dd.dictAt
 have hv:s.heap.IsValuesView v a:=(show bR X.prog X.w H s.heap v (jw v a) from I.ax v _ ev).1
 refine kdl_call (kdl_values (prog:=X.prog) (w:=X.w) (knd:=bF X.prog X.w) (kvs:=vs) (ep:=ep)) (I.ok.hd hc) ⟨hv,da⟩ (by rw [<- rel.length]; exact z) λh' tk acc c' kp hl hi=>?_
 exact ⟨.ref s.heap.objs.size,_,I.laid (t':=tk) kp (Qh _) (show bR X.prog X.w _ h' _ (.lst _) from ⟨by rw [Qd]; exact z,acc.toList,c',uN rel hi,hl⟩),rfl,q _ (I.ax.fresh (Qh _))⟩
theorem eR (hc:X.calm=true):eT X (.builtin "sorted") (λxs H Q=>∃ (a:Addr) (kvs:List (Key×V)) (ns:List Int),xs = [.ref a]/\Rd H a (.dK kvs)/\(kvs.map λkv=>kV kv.1)=ns.map V.int/\ns.length < 64 /\
  ∀ (p:Addr) (ms:List Int),H p=none->ms.Perm ns->ms.Pairwise (·<=·)->Q (.ref p) (upd H p (.lst (ms.map V.int)))):=by
 intro aa s σ H xs us Q I r h
 obtain ⟨a,kvs,ns,rfl,e,ek,QL,q⟩:=h
 obtain ⟨u,rfl,ru⟩:=iA r
 cases ru
 obtain ⟨z,hd,vs,rel,dd⟩:=jC I.ax e
 obtain ⟨ep,da⟩:=dd.dictAt
 refine aCP QL (λQ' DN=>?_) λh1 h' tk out zk k1 k2 pl hi hp ho=>?_
 ·refine kdu_collect (kdl_dict (prog:=X.prog) (w:=X.w) (knd:=bF X.prog X.w) (kvs:=vs) (ep:=ep) hd) (I.ok.hd hc) da (by rw [<- rel.length]; exact z) λh' tk acc kp hi=>?_
  have hv:=uO rel hi
  rw [ek] at hv
  exact DN h' tk _ kp (by simpa using pB hv)
 ·have I1:Inv X aa σ H { s with heap:=h1,toks:=tk }:=I.kept k1
  have hf:=I1.ax.fresh (Qh _)
  have hl:=hp.length_eq
  obtain ⟨n,e'⟩:=pl
  have I2:Inv X aa σ (upd H h1.objs.size (.lst (zk.map V.int))) { s with heap:=h',toks:=tk } :=
   I1.laid (t':=tk) k2 (Qh _) (show bR X.prog X.w _ _ _ (.lst _) from ⟨by rw [Qd,hl,Rf]; omega,out.toList,n,wU hi,by simpa using e'⟩)
  exact ⟨.ref h1.objs.size,_,I2,rfl,q _ zk hf hp ho⟩
theorem yP:eT X (.type "dict") (λxs H Q=>∃ (a:Addr) (kvs:List (Key×V)),xs = [.ref a]/\Rd H a (.dK kvs)/\∀ p,H p=none->Q (.ref p) (upd H p (.dK kvs))):=by
 intro aa s σ H xs us Q I r h
 obtain ⟨a,kvs,rfl,e,q⟩:=h
 obtain ⟨u,rfl,ru⟩:=iA r
 cases ru
 exact aD5 I e λp s' hp I'=>⟨.ref p,_,I',rfl,q p hp⟩
theorem mZ {v d : Addr} {kvs : List (Key × Value)} (hn : kvs.length <= sizeLine) : MeetsIn prog w (Builtin.«tuple.__new__» ⟨[.type "tuple", .ref v], []⟩) (λA R s => A.handled = none /\ s.heap.IsValuesView v d /\ s.heap.DictAt (bF prog w) d kvs ep /\ ∀ (h' : Heap) tk (acc : Array Value), (∀ b o', s.heap.get? b = some o' -> h'.get? b = some o') -> ItemsOf (λi v => ∃ k, kvs[i]? = some (k, v)) acc kvs.length ->
        R (.ok (.ret (.ref h'.objs.size))) { s with heap:=h'.push { cls:=.type "tuple",data:=.seq acc.toList.toArray },toks:=tk }) :=
  .of_wp λA R s h=>by
   obtain ⟨hp,g,dd,tk,os⟩:=s; obtain ⟨hh,hv,da,h⟩:=h
   have ET:=sub_tuple_self
   have WC:=init_tuple_lookup
   have F':=madeHere_tuple
   have hT:Shared.TypeIs ⟨hp,g,dd,tk,os⟩ (.ref v) "dict_values" := hv.typeIs
   obtain ⟨ov,JH,O8,tf⟩:=id hv
   wp_walk using Tu JH,Vh hT,kdu_collect (A:=A.in1) (s:=⟨hp,g,dd,tk,os⟩) (kdl_values (prog:=prog) (w:=w) (knd:=bF prog w) (kvs:=kvs) (ep:=ep)) hh ⟨hv,da⟩ hn
   intro h' XJ acc hk hi
   show wpAny _ _ (Builtin.Tuple.tupleExact acc.toList.toArray >>= λv=>ret v) _ _ _
   unfold Builtin.Tuple.tupleExact
   have hl:=hi.1
   refine Ra (Rq ?_ (by show acc.toList.toArray.size<=sizeLine; rw [Array.toArray_toList,hl]; exact hn))
   exact Rc ⟨_,rfl,h h' XJ acc hk hi⟩
theorem mG (hc:X.calm=true):eT X (.type "tuple") (λxs H Q=>∃ (v a:Addr) (kvs:List (Key×V)),xs = [.ref v]/\H v=some (jw v a)/\Rd H a (.dK kvs)/\∀ p,H p=none->Q (.ref p) (upd H p (.tup (kvs.map (·.2))))):=by
 intro aa s σ H xs us Q I r h
 obtain ⟨v,a,kvs,rfl,ev,e,q⟩:=h
 obtain ⟨u,rfl,ru⟩:=iA r
 cases ru
 obtain ⟨z,hd,vs,rel,dd⟩:=jC I.ax e
 obtain ⟨ep,da⟩:=dd.dictAt
 have hv:s.heap.IsValuesView v a:=(show bR X.prog X.w H s.heap v (jw v a) from I.ax v _ ev).1
 refine callType_newIn PySem.F.called_tuple (by decide) (PySem.F.typeCall_tuple_1 _) (PySem.F.newCall_tuple_1 _) (λobj=>Ij obj _) PySem.F.entry_tuple_new
  (mZ (v:=v) (d:=a) (kvs:=vs) (ep:=ep) (by rw [<- rel.length]; exact z)) ⟨I.ok.hd hc,hv,da,λh' tk acc kp hi=>⟨⟨_,Qj _ rfl,rfl⟩,?_⟩⟩
 have I1:Inv X aa σ H { s with heap:=h',toks:=tk }:=I.kept kp
 have hf:=I1.ax.fresh (Qh _)
 have I2:Inv X aa σ (upd H h'.objs.size (.tup (kvs.map (·.2)))) { s with heap:=h'.push { cls:=.type "tuple",data:=.seq acc.toList.toArray },toks:=tk } :=
  I1.laid (t':=tk) (λb o e=>Qc _ e) (Qh _) (show bR X.prog X.w _ _ _ (.tup _) from ⟨by rw [Qd]; exact z,acc.toList,0,uN rel hi,Qj _ rfl⟩)
 exact ⟨.ref h'.objs.size,_,I2,rfl,q _ hf⟩
end L2
namespace L2
open PySem PySem.Spec PyProof.Rows
def Hk (a:Addr) (o:Obj) (kvs:List (Key×V)):It :=
 ⟨λi H=>H a=some (.bq o (.dK kvs))/\i < kvs.length,λi H x H'=>H'=H/\∃ p,kvs[i]?=some p/\x=p.2,λi H=>H a=some (.bq o (.dK kvs))/\i=kvs.length⟩
theorem aCZ (a it:Addr) (o:Obj) (es:Array DictEntry) (ep:Nat) (hd:o.data=.dict es ep) (kvs:List (Key×V)) :
  Turn P w K tg (Hk a o kvs) [it] it (λi h=>h.IsValIter it a i kvs.length ep) where
 mem:=by simp
 obj:=λi h st b hb=>by
  have e:b=it:=by simpa using hb
  subst e
  obtain ⟨o,e,c,d⟩:=st
  exact ⟨o,e,λv z=>by rw [d] at z; cases z⟩
 keep:=λi h h' st k=>st.at λo e=>k it (by simp) o e
 item:=by
  intro X hP hw hK hc i aa s σ H E I hf st hg
  subst hP hw hK
  obtain ⟨hA,hi⟩:=hg
  obtain ⟨ho,hz,hs,vs,kv,dd⟩:s.heap.get? a=some o/\bR X.prog X.w H s.heap a (.dK kvs):=I.ax a _ hA
  have da:=jP ho hd dd
  have hl:kvs.length=vs.length:=kv.length
  obtain ⟨f0,f1,f2,f3,f4,f5⟩:=hf it (by simp)
  obtain ⟨⟨k,x⟩,hx⟩:∃ p,vs[i]?=some p:=⟨vs[i]'(by omega),by simp⟩
  rw [hl] at st
  refine wpAny_pyNext_values_item st da hx λh' n9 sb=>?_
  have I1:Inv X aa σ H { s with heap:=h' }:=I.turned (t':=s.toks) (λb o hb e=>(sb.2 b hb).trans e) f0 f1 f3 f4 f5
  obtain ⟨o',e',c',d'⟩:=id n9
  obtain ⟨p,hp,_,rp⟩:=Lp kv hx
  rw [<- hl] at n9
  exact ⟨x,rfl,zZ (s:={ s with heap:=h' }) e' c' d' (by decide) ⟨p.2,H,I1,rp,⟨rfl,_,hp,rfl⟩,n9,λb hb=>(hf b hb).1⟩⟩
 done:=by
  intro X hP hw hK hc i aa s σ H E I hf st hg
  subst hP hw hK
  obtain ⟨hA,hi⟩:=hg
  obtain ⟨ho,hz,hs,vs,kv,dd⟩:s.heap.get? a=some o/\bR X.prog X.w H s.heap a (.dK kvs):=I.ax a _ hA
  have da:=jP ho hd dd
  have hl:kvs.length=vs.length:=kv.length
  obtain ⟨f0,f1,f2,f3,f4,f5⟩:=hf it (by simp)
  rw [hl] at st
  exact wpAny_pyNext_values_end (I.ok.hd hc) st da (by simp; omega) λh' eb=>⟨rfl,I.turned (t':=s.toks) (λb o hb e=>eb b o hb e) f0 f1 f3 f4 f5⟩
 self:=λ_ _ _ _ _ st h=>wpAny_pyIter_valiter st h
def aH7 (H0:Hp) (td:TE):TI:=λσ H R=>td σ H λx H1=>∃ v a kvs,x=.ref v/\H1 v=some (jw v a)/\H1 a=some (.dK kvs)/\∀ o,NF H0 a->R (Hk a o kvs) (upd H1 a (.bq o (.dK kvs)))
theorem aFx {d:Expr} (hl:PE X d td):PI X tg d (aH7 X.t_ td):=by
 intro aa s σ H R I h
 refine bh (hl aa s σ H _ I h) λv s1 ay=>?_
 obtain ⟨x,H1,I1,r1,q1⟩:=ay
 obtain ⟨vw,a,kvs,e,hv,hq,q⟩:=q1
 subst e
 cases r1
 have Y':s1.heap.IsValuesView vw a:=(show bR X.prog X.w H1 s1.heap vw (jw vw a) from I1.ax vw _ hv).1
 obtain ⟨hz,hs,vs,kv,dd⟩:bR X.prog X.w H1 s1.heap a (.dK kvs):=I1.ax a _ hq
 obtain ⟨o,es,ep,ho,oe,hd,r⟩:=id dd
 have da:=jP ho hd dd
 refine wpAny_pyIter_values Y' da ?_
 have I2:=(I1.freeze hq ho).kept (h':=s1.heap.push { cls:=.type "dict_valueiterator",data:=.fields #[.ref a,.int 0 0,.int vs.length 0,.int ep 0] }) (t':=s1.toks) λb o e=>Qc _ e
 have nA:a≠s1.heap.objs.size:=Qy (Qo ho)
 refine ⟨s1.heap.objs.size,[s1.heap.objs.size],_,_,_,rfl,I2,aCZ a _ o es ep hd kvs,?_,λb hb=>?_,q o (I1.nf hq)⟩
 ·refine ⟨_,Qj _ rfl,rfl,?_⟩
  rw [kv.length]; rfl
 ·have e:b=s1.heap.objs.size:=by simpa using hb
  subst e
  exact I1.j8 (Qh _) (by rw [aF (Ne.symm nA)]; exact I1.ax.fresh (Qh _))
def aHc (own:Nat) (fr:List Nat) (td:TE) (g:TG) (tt:TT) (te:TE):TE:=λσ H Q=>td σ H λx H1=>∃ v a kvs,x=.ref v/\H1 v=some (jw v a)/\H1 a=some (.dK kvs)/\∀ o:Obj,jv (Hk a o kvs) [] (d7 own fr σ) (upd H1 a (.bq o (.dK kvs))) (λys _ H=>∀ p,H p=none->Q (.ref p) (upd (upd H p (.lst ys)) a (.dK kvs))) g tt (oi te)
section
variable {d:Expr} {t:TE}
theorem VL (S:bx X scope z own fr bo) (hc:X.calm=true) (hi:PE X d td) (hg:∀ C s0 H0 fp,PG (bX X scope z (own++bo) C s0 H0 fp) tg g) (ht:∀ C s0 H0 fp,PF (bX X scope z (own++bo) C s0 H0 fp) ifs tt)
  (he:∀ C s0 H0 fp,PE (bX X scope z (own++bo) C s0 H0 fp) elt te) (hs:∀ x,foldedSetIterable d X.env x=pure x:=by intro _; rfl) :
  PE X (.ListComp elt [⟨tg,d,ifs,0⟩] scope pos) (aHc own.length fr td g tt te):=by
 intro aa s σ H Q I h
 refine yO (gD S hc (aFx (Li hi)) hg ht he hs) aa s σ H Q I ⟨_,h,λx H1 q=>?_⟩
 obtain ⟨v,a,kvs,ex,hv,hx,k⟩:=q
 refine ⟨v,a,kvs,ex,hv,hx,λo nf=>?_⟩
 obtain ⟨W,w0,wk⟩:=k o
 refine ⟨W,w0,λi m ys ak H' w=>?_⟩
 rcases wk i m ys ak H' w with ⟨st,q⟩ | z
 ·refine .inl ⟨st,λp hp=>⟨a,o,kvs,?_,nf,q p hp⟩⟩
  rw [aF (λz=>by rw [<- z,st.1] at hp; cases hp)]
  exact st.1
 ·exact .inr z
end
theorem xB {a:Addr} {own:Nat} {σ:St} {Q:Hp->List V->Prop} (SH:St->Prop) (Pv:Nat->List V->Hp->Prop) (hn:kvs.length<=sizeLine) (gw:SH (d7 own fr σ)) (h0:Pv 0 [] H) (hlen:∀ i ys H,Pv i ys H->ys.length<=i) (hl:∀ i ys H,Pv i ys H->H a=some (.bq o (.dK kvs))) (hs:∀ i ys σ p H,kvs[i]?=some p->SH σ->Pv i ys H->ys.length < sizeLine->g p.2 σ H λaz H2=>tt az H2 λb H3=>if b=true then te az H3 λy H4=>ys.length < sizeLine/\SH az/\Pv (i+1) (ys++[y]) H4 else SH az/\Pv (i+1) ys H3) (hd:∀ ys H,Pv kvs.length ys H->Q H ys) :
  jv (Hk a o kvs) [] (d7 own fr σ) H (λys _ H=>Q H ys) g tt (oi te):=by
 refine lS kvs.length hn SH Pv gw h0 hlen (λys H p=>⟨hl _ _ _ p,rfl⟩) (λi ys H hi p=>⟨hl _ _ _ p,hi⟩) (λi ys σ x H H' hi sh p y hz=>?_) hd
 obtain ⟨rfl,v,hv,rfl⟩:=y
 exact hs i ys σ v _ hv sh p hz
def aFy (own:Nat) (fr:List Nat) (td:TE) (g:TG) (tt:TT) (tk tv:TE):TE:=λσ H Q=>td σ H λx H1=>∃ a kvs,x=.ref a/\H1 a=some (.dK kvs)/\∀ o:Obj,∃ W:Nat->Nat->List (Key×V)->St->Hp->Prop,(∃ m,W 0 m [] (d7 own fr σ) (upd H1 a (.bq o (.dK kvs))))/\∀ i m ys ak H,W i m ys ak H ->
 ((sk a o kvs).stop i H/\∀ p,H p=none->Q (.ref p) (upd (upd H p (.dK ys)) a (.dK kvs))) ∨
 ((sk a o kvs).go i H/\∃ N:List (Key×V)->St->Hp->Prop,(∀ qr az H2,N qr az H2->∃ m',m' < m/\W (i+1) m' qr az H2) /\
  ∀ x H',(sk a o kvs).pw i H x H'->g x ak H' λaz H2=>tt az H2 λb H3=>if b=true then tk az H3 λx H4=>tv az H4 λy H5=>∃ k,x=kV k/\ys.length < sizeLine/\N (eQ ys k y) az H5 else N ys az H3)
section
variable {d:Expr}
theorem aC0 (S:bx X scope z own fr bo) (hc:X.calm=true) (hi:PE X d td) (hg:∀ C s0 H0 fp,PG (bX X scope z (own++bo) C s0 H0 fp) tg g) (ht:∀ C s0 H0 fp,PF (bX X scope z (own++bo) C s0 H0 fp) ifs tt)
  (hk:∀ C s0 H0 fp,PE (bX X scope z (own++bo) C s0 H0 fp) kx tk) (he:∀ C s0 H0 fp,PE (bX X scope z (own++bo) C s0 H0 fp) vx tv) (hs:∀ x,foldedSetIterable d X.env x=pure x:=by intro _; rfl) :
  PE X (.DictComp kx vx [⟨tg,d,ifs,0⟩] scope pos) (aFy own.length fr td g tt tk tv):=by
 intro aa s σ H Q I h
 refine yO (VM S hc (qH (Li hi)) hg ht hk he hs) aa s σ H Q I ⟨_,h,λx H1 q=>?_⟩
 obtain ⟨a,kvs,ex,hx,k⟩:=q
 refine ⟨a,kvs,ex,hx,λo nf=>?_⟩
 obtain ⟨W,w0,wk⟩:=k o
 refine ⟨W,w0,λi m ys ak H' w=>?_⟩
 rcases wk i m ys ak H' w with ⟨st,q⟩ | z
 ·refine .inl ⟨st,λp hp=>⟨a,o,kvs,?_,nf,q p hp⟩⟩
  rw [aF (λz=>by rw [<- z,st.1] at hp; cases hp)]
  exact st.1
 ·exact .inr z
end
theorem aD6 {a:Addr} {own:Nat} {σ:St} {Q:Hp->List (Key×V)->Prop} (SH:St->Prop) (Pv:Nat->List (Key×V)->Hp->Prop) (hn:kvs.length<=sizeLine) (gw:SH (d7 own fr σ)) (h0:Pv 0 [] H) (hlen:∀ i ys H,Pv i ys H->ys.length<=i) (hl:∀ i ys H,Pv i ys H->H a=some (.bq o (.dK kvs))) (hs:∀ i ys σ kv H,kvs[i]?=some kv->SH σ->Pv i ys H->ys.length < sizeLine->g (kV kv.1) σ H λaz H2=>tt az H2 λb H3=>if b=true then tk az H3 λx H4=>tv az H4 λy H5=>∃ k,x=kV k/\ys.length < sizeLine/\SH az/\Pv (i+1) (eQ ys k y) H5 else SH az/\Pv (i+1) ys H3) (hd:∀ ys H,Pv kvs.length ys H->Q H ys) :
  ∃ W:Nat->Nat->List (Key×V)->St->Hp->Prop,(∃ m,W 0 m [] (d7 own fr σ) H)/\∀ i m ys ak H,W i m ys ak H ->
   ((sk a o kvs).stop i H/\Q H ys) ∨
   ((sk a o kvs).go i H/\∃ N:List (Key×V)->St->Hp->Prop,(∀ qr az H2,N qr az H2->∃ m',m' < m/\W (i+1) m' qr az H2) /\
    ∀ x H',(sk a o kvs).pw i H x H'->g x ak H' λaz H2=>tt az H2 λb H3=>if b=true then tk az H3 λx H4=>tv az H4 λy H5=>∃ k,x=kV k/\ys.length < sizeLine/\N (eQ ys k y) az H5 else N ys az H3):=by
 refine ⟨λi m ys ak H=>m=kvs.length - i/\i<=kvs.length/\SH ak/\Pv i ys H,⟨kvs.length,by simp,Jt _,gw,h0⟩,?_⟩
 rintro i m ys ak H ⟨rfl,hi,sh,p⟩
 by_cases bw:i < kvs.length
 ·refine .inr ⟨⟨hl _ _ _ p,bw⟩,λqr az H2=>SH az/\Pv (i+1) qr H2,λqr az H2 q=>⟨kvs.length - (i+1),by omega,rfl,bw,q.1,q.2⟩,λx H' y=>?_⟩
  obtain ⟨rfl,v,hv,rfl⟩:=y
  exact hs i ys ak v _ hv sh p (by have:=hlen i ys _ p; omega)
 ·have e:i=kvs.length:=by omega
  subst e
  exact .inl ⟨⟨hl _ _ _ p,rfl⟩,hd ys H p⟩
theorem aD7 {p:Program} {es:List DictEntry} {kvs:List (Key×Value)} (h:Pairs (bF p w) es kvs):Pairs (bF p' w') es kvs:=by
 induction h with
 | nil=>exact .nil
 | cons h1 h2 _ ih=>exact .cons h1 h2 ih
theorem aC1 {p:Program} {es:List DictEntry} {kvs:List (Key×Value)} (h:Pairs (bF p w) es kvs) (hi:∀ kv∈kvs,∃ i:Int,kv.1=.inl i):(∀ e∈es,∃ k:Key,rX k e.key=true/\e.hash=K5 w k)->∀ e∈es,∃ k:Key,rX k e.key=true/\e.hash=K5 w' k:=by
 induction h with
 | nil=>intro _ e he; exact (Qt he).elim
 | @cons e kv es kvs h1 h2 _ ih =>
  intro hk e' DG
  rcases Ql.mp DG with rfl | DG
  ·obtain ⟨k,a,b⟩:=hk e' (Qp ..)
   obtain ⟨i,ei⟩:=hi kv (Qp ..)
   have ek:k=kv.1:=(bF p w).inj _ _ _ a h1
   refine ⟨k,a,?_⟩
   rw [b,ek,ei]; rfl
  ·exact ih (λkv h=>hi kv (Qk _ h)) (λe h=>hk e (Qk _ h)) e' DG
theorem uQ {p:Program} {a:Addr} {kvs:List (Key×Value)} (d:h.DictOf (bF p w) a kvs) (hi:∀ kv∈kvs,∃ i:Int,kv.1=.inl i):h.DictOf (bF p' w') a kvs:=by
 obtain ⟨o,es,ep,ho,hx,hd,hk,hp,nd⟩:=d
 refine ⟨o,es,ep,ho,hx,hd,λe he=>?_,aD7 hp,nd⟩
 exact aC1 hp hi (λe he=>hk e (by simpa using he)) e (by simpa using he)
structure qo (K:Rb) (H:Hp) (k1 k2:List (Key×V)):Prop where
 len:k1.length=k2.length
 int:∀ kv∈k1,∃ i:Int,kv.1=.inl i
 MM:∀ kv∈k2,∃ i:Int,kv.1=.inl i
 val:∀ kv∈k1,∃ u d,bW k2 kv.1=some u/\Den K H d kv.2/\Den K H d u/\eO d=true/\SeqAt.shaped d=true
theorem xC {σ:St} (I:Inv X aa σ H s) {k2:List (Key×V)} {v2:List (Key×Value)} (r2:KV k2 v2) (hu:A.in1.units+64 < cLine):∀ {k1:List (Key×V)} {v1:List (Key×Value)},KV k1 v1 ->
  (∀ kv∈k1,∃ u d,bW k2 kv.1=some u/\Den X.K H d kv.2/\Den X.K H d u/\eO d=true/\SeqAt.shaped d=true)->PySem.W.KeqHits A.in1 s v2 v1 true:=by
 intro k1 v1 r1
 unfold KV at r1
 induction r1 with
 | nil=>intro _; exact .nil
 | @cons p q ps qs h t ih =>
  intro hh
  obtain ⟨h1,h2⟩:=h
  obtain ⟨u,d,e,d1,d2,nd,sh⟩:=hh p (Qp ..)
  obtain ⟨y,hy,ry⟩:=mI.some_of (v:=u) (o:=valueAt v2 p.1) (by rw [<- e]; exact r2.val p.1)
  obtain ⟨as,ra⟩:=Den.reads I d _ _ nd d1 h2
  obtain ⟨bs,rb⟩:=Den.reads I d _ _ nd d2 ry
  have x:=Mv (A:=A) ra rb sh sh hu
  rw [Ug d (SeqAt.canLay_of_shaped sh)] at x
  obtain ⟨k,v⟩:=q
  have hk:p.1=k:=h1
  rw [hk] at hy
  exact .hit (e:=true) (b:=true) hy x (ih λkv ie=>hh kv (Qk _ ie))
theorem TC {k1:List (Key×V)} {v1:List (Key×Value)} (r:KV k1 v1) (h:∀ kv∈k1,∃ i:Int,kv.1=.inl i):∀ kv∈v1,∃ i:Int,kv.1=.inl i:=by
 unfold KV at r
 induction r with
 | nil=>intro kv hk; exact (Qt hk).elim
 | @cons p q ps qs hh t ih =>
  intro kv hk
  rcases Ql.mp hk with rfl | hk
  ·obtain ⟨i,e⟩:=h p (Qp ..)
   exact ⟨i,by rw [<- hh.1]; exact e⟩
  ·exact ih (λkv h'=>h kv (Qk _ h')) kv hk
theorem aBr (hu:X.A.units+100 < cLine):fm X (compareOp .NotEq) (λx y H Q=>∃ (a b:Addr) (k1 k2:List (Key×V)),x=.ref a/\y=.ref b/\Rd H a (.dK k1)/\Rd H b (.dK k2)/\qo X.K H k1 k2/\Q (.bl false) H):=by
 intro aa s σ H x y v u Q I rx ry h
 obtain ⟨a,b,k1,k2,rfl,rfl,e1,e2,S,q⟩:=h
 cases rx
 cases ry
 obtain ⟨z1,j0,v1,r1,d1⟩:=jC I.ax e1
 obtain ⟨z2,hd2,v2,r2,d2⟩:=jC I.ax e2
 have hl:v1.length=v2.length:=by rw [<- r1.length,<- r2.length,S.len]
 refine PySem.W.keq_ne (knd:=bF X.prog X.w) j0 hd2 d1 d2 (by omega) (λ_=>xC I r2 (by show X.A.units+1+64 < cLine; omega) r1 S.val) ?_
 rw [hl,beq_self_eq_true]
 exact ⟨.bl false,H,I,rfl,q⟩
structure Fn (K:Rb) (mg:Str->Option Value) (x:Str) (st:Stmt) (ps:List Str) (f:Addr) (fd:FuncData):Prop where
 fn:o8 K x x st f fd
 IK:mg x=some (.ref f)
 kp:Tc K (.ref f)=true
 bd:jT K fd ps []
theorem aW {x:Str} {k:Nat} {p:Pos} {t:TA} (G:Fn X.K X.mg x st ps f fd) (ok:ae X.prog X.w X.K X.mg X.base ao k f fd ps sp) (hr:aj k X.A) (hg:Gl X x) (ha:PA X (e::es) t) (kj:(x==("__debug__" : Str))=false:=by decide) (he:starEach (e::es) X.env=(false,eval e X.env)::starEach es X.env:=by rfl) (j_:(backTo pos (starEach es X.env)).any (·.1)=false:=by rfl) :
  PE X (.Call (.Name x p) (e::es) [] pos) (G6 sp [] E0 t):=aE8 ok hr hg G.IK G.kp G.bd .nil gH ha kj he j_
structure Bl (mg:Str->Option Value):Prop where
 isinstance:mg "isinstance" = none
 int:mg "int" = none
 bool:mg "bool" = none
 tuple:mg "tuple" = none
 list:mg "list" = none
 len:mg "len" = none
 all:mg "all" = none
 zip:mg "zip" = none
 range:mg "range" = none
 sorted:mg "sorted" = none
 set:mg "set" = none
 sum:mg "sum" = none
 repr:mg "repr" = none
 enumerate:mg "enumerate" = none
 min:mg "min" = none
 any:mg "any" = none
 dict:mg "dict" = none
 ve:mg "ValueError" = none
 f_:∃ t,mg "MOST_HANDS" = some (.int 6 t)
 de:∃ t,mg "MOST_WORKS" = some (.int 12 t)
theorem iM:bootBuiltins "isinstance" = some (.builtin "isinstance"):=by decide +kernel
theorem Ei:bootBuiltins "int" = some (.type "int"):=by decide +kernel
theorem Lo:bootBuiltins "bool" = some (.type "bool"):=by decide +kernel
theorem gE:bootBuiltins "tuple" = some (.type "tuple"):=by decide +kernel
theorem pE:bootBuiltins "list" = some (.type "list"):=by decide +kernel
theorem eP:bootBuiltins "len" = some (.builtin "len"):=by decide +kernel
theorem xD:bootBuiltins "all" = some (.builtin "all"):=by decide +kernel
theorem lC:bootBuiltins "sorted" = some (.builtin "sorted"):=by decide +kernel
end L2
namespace Ab
open PySem L2
def top (i:Nat):Stmt:=PySem.Challenge.pw_ablehands_k41_deeds_of_a_dealing_refused.main.body.getD i (.Pass ⟨0,0,0,0⟩)
abbrev lT:Stmt:=top 16
abbrev G3:Stmt:=top 51
abbrev uR:Stmt:=top 52
abbrev qJ:Stmt:=top 53
abbrev lD:Stmt:=top 54
abbrev Eh:Stmt:=top 55
abbrev nB:Stmt:=top 56
abbrev pF:Stmt:=top 57
abbrev G2:Stmt:=top 58
abbrev uS:Stmt:=top 59
abbrev eS:Stmt:=top 35
def gQ (s:Stmt):List Stmt:=match s with
 | .ClassDef _ _ _ b _ _ _ _ _ _ _=>b
 | _=>[]
abbrev uT:Stmt:=(gQ eS).getD 0 (.Pass ⟨0,0,0,0⟩)
abbrev uU:Stmt:=(gQ eS).getD 1 (.Pass ⟨0,0,0,0⟩)
abbrev nC:Stmt:=(gQ eS).getD 2 (.Pass ⟨0,0,0,0⟩)
abbrev nD:Stmt:=(gQ eS).getD 3 (.Pass ⟨0,0,0,0⟩)
abbrev Bn:Stmt:=(gQ eS).getD 4 (.Pass ⟨0,0,0,0⟩)
abbrev uV:Stmt:=(gQ eS).getD 5 (.Pass ⟨0,0,0,0⟩)
abbrev uW:Stmt:=(gQ eS).getD 6 (.Pass ⟨0,0,0,0⟩)
abbrev p8:Stmt:=(gQ eS).getD 7 (.Pass ⟨0,0,0,0⟩)
abbrev pG:Stmt:=(gQ eS).getD 8 (.Pass ⟨0,0,0,0⟩)
abbrev Eg:Stmt:=(gQ eS).getD 9 (.Pass ⟨0,0,0,0⟩)
abbrev rH:Stmt:=(gQ eS).getD 10 (.Pass ⟨0,0,0,0⟩)
abbrev qK:Stmt:=(gQ eS).getD 11 (.Pass ⟨0,0,0,0⟩)
abbrev uX:Stmt:=(gQ eS).getD 12 (.Pass ⟨0,0,0,0⟩)
abbrev pH:Stmt:=top 17
abbrev pI:Stmt:=top 18
abbrev uY:Stmt:=top 19
abbrev yQ:Stmt:=top 20
abbrev Ln:Stmt:=top 21
abbrev Ll:Stmt:=top 22
abbrev jY:Stmt:=top 24
abbrev Lk:Stmt:=top 25
abbrev jZ:Stmt:=top 27
abbrev lE:Stmt:=top 28
abbrev rJ:Stmt:=top 29
abbrev lF:Stmt:=top 30
abbrev GO:Stmt:=top 32
abbrev qL:Stmt:=top 34
abbrev yR:Stmt:=top 37
abbrev kQ:Stmt:=top 38
abbrev qM:Stmt:=top 39
abbrev xE:Stmt:=top 40
abbrev rK:Stmt:=top 41
abbrev yS:Stmt:=top 42
abbrev ze:Stmt:=top 43
abbrev jD:Stmt:=top 44
abbrev qN:Stmt:=top 45
abbrev nE:Stmt:=top 46
abbrev lU:Stmt:=top 47
abbrev GU:Stmt:=top 48
abbrev uZ:Stmt:=top 49
abbrev lV:Stmt:=top 50
abbrev GS:Stmt:=top 60
def gX:PyData->Bool
 | .int _=>true
 | _=>false
def eK:PyData->Bool
 | .int i=>decide (1<=i) && decide (i<=6)
 | _=>false
def cT (f_:Int):Int->List PyData->Bool
 | _,[]=>true
 | last,.int i::r=>decide (last < i) && decide (i < f_) && cT f_ i r
 | _,_::_=>false
def cA (f_:Int):PyData->Bool
 | .tuple ds=>!ds.isEmpty && cT f_ (-1) ds
 | _=>false
def aHd:PyData->PyData->Bool
 | .int h,.tuple ws=>decide (1<=h) && decide (h<=6) && decide (ws.length<=12) && ws.all (cA h)
 | _,_=>false
def iQ:PyData->Bool
 | .tuple [dh,dw]=>aHd dh dw
 | _=>false
def lW (K:Rb):Sp:=λvs H Q _=>∃ x d,vs = [x]/\Den K H d x/\Q (.bl (gX d)) H
theorem aFC:af ["thing"] ["thing"] (aI lT):=.of
theorem qO (G:Fn K mg "is_whole" lT ["thing"] f fd) (B:Bl mg):ae P w K mg base ao 1 f fd ["thing"] (lW K):=by
 refine G.fn.oK aFC λbg A outer s H vs Q E hr h=>?_
 ·obtain ⟨x,d,rfl,hd,k⟩:=h
  refine ⟨_,aJ (aR (oV (aL pY rfl B.isinstance iM (aA (pv 0) (aA (eI (v:=.ty "int") rfl B.int Ei rfl) aC)))
   (oU (LJ (aL oM rfl B.isinstance iM (aA (pv 0) (aA (eI (v:=.ty "bool") rfl B.bool Lo rfl) aC))))))),?_⟩
  refine ⟨_,rfl,x,mJ d,rfl,hd.kd,_,rfl,?_⟩
  refine gI (λc=>?_) (λc=>?_)
  ·refine ⟨_,rfl,x,mJ d,rfl,hd.kd,_,rfl,?_⟩
   have e:(!decide (mJ d=Kd.bl))=gX d:=by
    cases d <;> first | rfl | (exfalso; simp [mJ] at c)
   rw [e]
   exact k
  ·have e:false=gX d:=by
    cases d <;> first | rfl | (exfalso; simp [mJ] at c)
   rw [e]
   exact k
def qP (K:Rb):Sp:=λvs H Q _=>∃ x d,vs = [x]/\Den K H d x/\Q (.bl (eK d)) H
theorem aFD:af ["thing"] ["thing"] (aI pH):=.of
theorem VJ (G:Fn K mg "are_hands" pH ["thing"] f fd) (B:Bl mg) (W:Fn K mg "is_whole" lT ["thing"] fW DW):ae P w K mg base ao 2 f fd ["thing"] (qP K):=by
 have GW:ae P w K mg base ao 1 fW DW ["thing"] (lW K):=qO W B
 obtain ⟨t6,h6⟩:=B.f_
 refine G.fn.oK aFD λbg A outer s H vs Q E hr h=>?_
 ·obtain ⟨x,d,rfl,hd,k⟩:=h
  refine ⟨_,aJ (aR (oV (aW W GW hr rfl (aA (pv 0) aC))
   (oU (aDq La La aH (pv 0) (lM (v:=.int 6) rfl h6 ⟨t6,rfl⟩))))),?_⟩
  refine ⟨_,rfl,x,d,rfl,hd,_,rfl,?_⟩
  refine gI (λc=>?_) (λc=>?_)
  ·obtain ⟨i,rfl⟩:∃ i,d=.int i:=by cases d <;> first | exact ⟨_,rfl⟩ | (exfalso; simp [gX] at c)
   obtain rfl:=cF.mp hd
   refine ⟨_,rfl,_,_,rfl,rfl,_,rfl,?_⟩
   refine gI (λc1=>?_) (λc1=>?_)
   ·refine ⟨_,_,rfl,rfl,?_⟩
    have e:decide (i<=6)=eK (.int i):=by
     show _=(decide (1<=i) && decide (i<=6))
     rw [c1,Xx]
    show Q (.bl (decide (i<=6))) H
    rw [e]; exact k
   ·have e:false=eK (.int i):=by
     show _=(decide (1<=i) && decide (i<=6))
     have c2:decide (1<=i)=false:=by simpa using c1
     rw [c2,Bool.false_and]
    rw [e]; exact k
  ·have e:false=eK d:=by cases d <;> first | rfl | (exfalso; simp [gX] at c)
   rw [e]; exact k
theorem jI (h l i:Int) (r:List PyData):cT h l (.int i::r)=(decide (l < i) && decide (i < h) && cT h i r):=by rw [cT]
theorem vA (h l:Int) (d:PyData) (r:List PyData) (n:gX d=false):cT h l (d::r)=false:=by
 cases d <;> first | rfl | (simp [gX] at n)
def qQ (K:Rb):Sp:=λvs H Q _=>∃ n x d,vs = [.int n,x]/\Den K H d x/\Q (.bl (cA n d)) H
theorem sU:af ["hands", "thing", "last", "hand"] ["hands", "thing"] (aI pI):=.of
theorem VI (G:Fn K mg "is_work" pI ["hands", "thing"] f fd) (B:Bl mg) (W:Fn K mg "is_whole" lT ["thing"] fW DW):ae P w K mg base ao 2 f fd ["hands", "thing"] (qQ K):=by
 have GW:ae P w K mg base ao 1 fW DW ["thing"] (lW K):=qO W B
 refine G.fn.oK sU λbg A outer s H vs Q E hr h=>?_
 ·obtain ⟨n,x,d,rfl,hd,k⟩:=h
  refine ⟨_,aE (bI (PW.pt (fZ (bV (bL (aL cW rfl B.isinstance iM (aA (pv 1) (aA (eI (v:=.ty "tuple") rfl B.tuple gE rfl) aC)))))
    (eV (aP dX (aL bB rfl B.len eP (aA (pv 1) aC)) aH (aU _))))) (aJ (aR fY)) aS)
   (aE (aX (i:=2) sU.nd rfl (Or.inl rfl) (pR lP aH))
   (aE (hV PassesOwn.never rfl (oX (pv 1)) (aV (i:=3) sU.nd rfl (Or.inl rfl))
    (aE (bI (PW.pt (fZ (bV (bL (aW W GW hr rfl (aA (pv 3) aC)))) (fZ (aP La (pv 3) (pv 2) (aU _)) (eV (aP G7 (pv 3) (pv 0) (aU _)))))) (aJ (aR fY)) aS)
    (aJ (aX (i:=2) sU.nd rfl (Or.inl rfl) (pv 3)))))
   (aJ (aR fY)))),?_⟩
  refine ⟨_,rfl,x,mJ d,rfl,hd.kd,_,rfl,?_⟩
  refine gI (λc=>?_) (λc=>?_)
  ·-- not a tuple
   refine kN ?_
   have e:false=cA n d:=by
    cases d <;> first | rfl | (exfalso; simp [mJ] at c)
   rw [e]; exact k
  ·obtain ⟨ds,rfl⟩:∃ ds,d=.tuple ds:=by cases d <;> first | exact ⟨_,rfl⟩ | (exfalso; simp [mJ] at c)
   obtain ⟨a,xs,rfl,ha,lj⟩:=bC.mp hd
   have hl:=bZ lj
   refine ⟨_,rfl,a,xs,rfl,.inr ha,rfl,_,rfl,?_⟩
   refine gI (λc2=>?_) (λc2=>?_)
   ·have e:false=cA n (.tuple ds):=by
     have e1:ds = []:=by
      have:(xs.length:Int)=0:=by simpa using c2
      exact Zn.mp (by omega)
     rw [e1]; rfl
    rw [e]; exact k
   ·have ff:ds≠[]:=by
     intro z
     apply c2
     rw [z] at hl
     simp [hl]
    have e0:cA n (.tuple ds)=cT n (-1) ds:=by
     show (!ds.isEmpty && cT n (-1) ds)=_
     cases ds with
     | nil=>exact absurd rfl ff
     | cons _ _=>rfl
    rw [e0] at k
    refine ⟨_,rfl,?_⟩
    refine ⟨_,rfl,a,rfl,⟨xs,ha⟩,UM (K:=K) (a:=a) (xs:=xs) (λi σ H2=>∃ (last:Int) (v:Option V),σ = [some (.int n),some (.ref a),some (.int last),v]/\H2=H/\cT n (-1) ds=cT n last (ds.drop i))
     ⟨-1,none,rfl,rfl,rfl⟩ (λi σ H2 _ ⟨_,_,_,e,_⟩=>by rw [e]; exact ha) ?_ ?_⟩
    ·rintro i y σ H2 hi ⟨last,v,rfl,rfl,jy⟩
     obtain ⟨dy,υ,yy⟩:=kX lj hi
     have m_:ds.drop i=dy::ds.drop (i+1):=by
      obtain ⟨bw,e⟩:=Qa.mp υ
      rw [Yn bw,e]
     rw [m_] at jy
     refine ⟨_,rfl,y,dy,rfl,yy,_,rfl,?_⟩
     refine gI (λc3=>?_) (λc3=>?_)
     ·refine kN ?_
      have e:false=cT n (-1) ds:=by rw [jy,vA]; simpa using c3
      rw [e]; exact k
     ·obtain ⟨j,rfl⟩:∃ j,dy=.int j:=by cases dy <;> first | exact ⟨_,rfl⟩ | (exfalso; simp [gX] at c3)
      obtain rfl:=cF.mp yy
      rw [jI] at jy
      refine ⟨_,rfl,_,rfl,_,_,rfl,rfl,_,rfl,?_⟩
      refine gI (λc4=>?_) (λc4=>?_)
      ·refine kN ?_
       have Q!:j<=last:=of_decide_eq_true c4
       have e:false=cT n (-1) ds:=by rw [jy,decide_eq_false (by omega:¬ last < j)]; rfl
       rw [e]; exact k
      ·have Q!:¬ j<=last:=λz=>c4 (decide_eq_true z)
       refine ⟨_,rfl,_,rfl,_,_,rfl,rfl,_,rfl,?_⟩
       refine gI (λc5=>?_) (λc5=>?_)
       ·have P?:n<=j:=of_decide_eq_true c5
        have e:false=cT n (-1) ds:=by rw [jy,decide_eq_false (by omega:¬ j < n),Bool.and_false]; rfl
        rw [e]; exact k
       ·have P?:¬ n<=j:=λz=>c5 (decide_eq_true z)
        refine ⟨_,rfl,j,some (.int j),rfl,rfl,?_⟩
        rw [jy,decide_eq_true (by omega:last < j),decide_eq_true (by omega:j < n)]
        rfl
    ·rintro σ H2 ⟨last,v,rfl,rfl,jy⟩
     have e:true=cT n (-1) ds:=by
      rw [jy,hl,List.drop_length]
      rfl
     show Q (.bl true) _
     rw [e]; exact k
theorem aFE {σ:St} {A B:Hp->Prop} (h:A H):Ah σ H λb H3=>if b=true then A H3 else B H3:=by
 show if true=true then A H else B H
 exact kN h
theorem cQ {x:V} {σ:St} {A B:St->Hp->Prop} (h:A (σ.set i (some x)) H):bN i x σ H λaz H2=>Ah az H2 λb H3=>if b=true then A az H3 else B az H3:=by
 show if true=true then A (σ.set i (some x)) H else B (σ.set i (some x)) H
 exact kN h
def UD (K:Rb):Sp:=λvs H Q _=>∃ x d,vs = [x]/\Den K H d x/\∀ H',aD H H'->Q (.bl (iQ d)) H'
theorem yT:af ["thing", "hands", "works"] ["thing"] (aI uY):=.of
theorem aD9 {QP QO:FuncData} (G:Fn K mg "is_book" uY ["thing"] f fd) (B:Bl mg) (W:Fn K mg "is_whole" lT ["thing"] fW DW) (GH:Fn K mg "are_hands" pH ["thing"] fH QP) (GK:Fn K mg "is_work" pI ["hands", "thing"] fK QO):ae P w K mg base ao 3 f fd ["thing"] (UD K):=by
 have OH:ae P w K mg base ao 2 fH QP ["thing"] (qP K):=VJ GH B W
 have OK:ae P w K mg base ao 2 fK QO ["hands", "thing"] (qQ K):=VI GK B W
 obtain ⟨HE,lu⟩:=B.de
 refine G.fn.oK yT λbg A outer s H vs Q E hr h=>?_
 ·obtain ⟨x,d,rfl,hd,k⟩:=h
  refine ⟨_,aE (bI (PW.pt (fZ (bV (bL (aL cW rfl B.isinstance iM (aA (pv 0) (aA (eI (v:=.ty "tuple") rfl B.tuple gE rfl) aC)))))
    (eV (aP oJ (aL bB rfl B.len eP (aA (pv 0) aC)) aH (aU _))))) (aJ (aR fY)) aS)
   (aE (tM (pv 0) (oW rfl (dJ (aV (i:=1) yT.nd rfl (Or.inr rfl)) (dJ (aV (i:=2) yT.nd rfl (Or.inl rfl)) lO))))
   (aE (bI (bV (bL (aW GH OH hr rfl (aA (pv 1) aC)))) (aJ (aR fY)) aS)
   (aE (bI (PW.pt (fZ (bV (bL (aL cW rfl B.isinstance iM (aA (pv 2) (aA (eI (v:=.ty "tuple") rfl B.tuple gE rfl) aC)))))
    (eV (aP mM (aL bB rfl B.len eP (aA (pv 2) aC)) (lM (v:=.int 12) rfl lu ⟨HE,rfl⟩) (aU _))))) (aJ (aR fY)) aS)
   (aJ (aR (aL (kU rfl) rfl B.all xD (aA
    (gD (own:=["work"]) (fr:=[1]) (bo:=["hands"]) (bK (aI uY) ["thing", "hands", "works"] rfl rfl (by decide +kernel)) rfl (oX (pv 2))
     (λ_ _ _ _=>aV (i:=0) (show (["work", "hands"]:List Str).Nodup by decide +kernel) rfl (Or.inl rfl)) (λ_ _ _ _=>eM) (λ_ _ _ _=>aW GK OK hr rfl (aA (pv 1) (aA (pv 0) aC)))) aC))))))),?_⟩
  refine ⟨_,rfl,x,mJ d,rfl,hd.kd,_,rfl,?_⟩
  refine gI (λc=>?_) (λc=>?_)
  ·refine kN ?_
   have e:false=iQ d:=by
    cases d <;> first | rfl | (exfalso; simp [mJ] at c)
   rw [e]; exact k H (aD.refl H)
  ·obtain ⟨ds,rfl⟩:∃ ds,d=.tuple ds:=by cases d <;> first | exact ⟨_,rfl⟩ | (exfalso; simp [mJ] at c)
   obtain ⟨a,xs,rfl,ha,lj⟩:=bC.mp hd
   have hl:=bZ lj
   refine ⟨_,rfl,a,xs,rfl,.inr ha,rfl,_,rfl,?_⟩
   refine gI (λc2=>?_) (λc2=>?_)
   ·have e:false=iQ (.tuple ds):=by
     match ds,hl,c2 with
     | [],_,_=>rfl
     | [_],_,_=>rfl
     | [_,_],hl,c2=>exfalso; rw [hl] at c2; simp at c2
     | _::_::_::_,_,_=>rfl
    rw [e]; exact k H (aD.refl H)
   ·obtain ⟨dh,dw,rfl⟩:∃ dh dw,ds = [dh,dw]:=by
     match ds,hl,c2 with
     | [],hl,c2=>exfalso; rw [hl] at c2; simp at c2
     | [_],hl,c2=>exfalso; rw [hl] at c2; simp at c2
     | [p,q],_,_=>exact ⟨p,q,rfl⟩
     | p::q::r::t,hl,c2=>exfalso; apply c2; rw [hl]; simp; omega
    obtain ⟨xh,r1,rfl,hh,h2⟩:=bG.mp lj
    obtain ⟨xw,r2,rfl,hw,h3⟩:=bG.mp h2
    obtain rfl:=bY.mp h3
    -- hands,works=thing
    refine ⟨_,rfl,a,_,rfl,ha,rfl,_,_,rfl,_,_,rfl,rfl,?_⟩
    -- are_hands(hands)
    refine ⟨_,rfl,xh,dh,rfl,hh,_,rfl,?_⟩
    refine gI (λc3=>?_) (λc3=>?_)
    ·have e:false=iQ (.tuple [dh,dw]):=by
      have Q?:eK dh=false:=by simpa using c3
      cases dh with
      | int n =>
       cases dw with
       | tuple ws =>
        have c4:(decide (1<=n) && decide (n<=6))=false:=Q?
        show _=(decide (1<=n) && decide (n<=6) && decide (ws.length<=12) && ws.all (cA n))
        rw [c4]; rfl
       | _=>rfl
      | _=>rfl
     rw [e]; exact k H (aD.refl H)
    ·obtain ⟨n,rfl,hn⟩:∃ n,dh=.int n/\(decide (1<=n) && decide (n<=6))=true:=by
      cases dh <;> first | exact ⟨_,rfl,by simpa [eK] using c3⟩ | (exfalso; simp [eK] at c3)
     obtain rfl:=cF.mp hh
     refine ⟨_,rfl,xw,mJ dw,rfl,hw.kd,_,rfl,?_⟩
     refine gI (λc5=>?_) (λc5=>?_)
     ·refine kN ?_
      have e:false=iQ (.tuple [.int n,dw]):=by
       cases dw <;> first | rfl | (exfalso; simp [mJ] at c5)
      rw [e]; exact k H (aD.refl H)
     ·obtain ⟨ws,rfl⟩:∃ ws,dw=.tuple ws:=by cases dw <;> first | exact ⟨_,rfl⟩ | (exfalso; simp [mJ] at c5)
      obtain ⟨b,ys,rfl,hb,fg⟩:=bC.mp hw
      have wc:=bZ fg
      have eB:iQ (.tuple [.int n,.tuple ws])=(decide (ws.length<=12) && ws.all (cA n)):=by
       show (decide (1<=n) && decide (n<=6) && decide (ws.length<=12) && ws.all (cA n))=_
       rw [hn,Xx]
      rw [eB] at k
      refine ⟨_,rfl,b,ys,rfl,.inr hb,_,_,rfl,rfl,_,rfl,?_⟩
      refine gI (λc6=>?_) (λc6=>?_)
      ·have P!:(12:Int) < ys.length:=of_decide_eq_true c6
       have e:false=(decide (ws.length<=12) && ws.all (cA n)):=by rw [decide_eq_false (by omega:¬ ws.length<=12)]; rfl
       rw [e]; exact k H (aD.refl H)
      ·have P!:¬ (12:Int) < ys.length:=λz=>c6 (decide_eq_true z)
       have e1:decide (ws.length<=12)=true:=decide_eq_true (by omega)
       rw [e1,Xx] at k
       refine ⟨_,rfl,b,rfl,⟨ys,hb⟩,aDH (K:=K) (a:=b) (xs:=ys) (λσ=>∃ v,σ = [v,some (.int n)]) (λi zs H2=>H2=H/\zs=((ws.take i).map (cA n)).map V.bl) ?_ ⟨none,rfl⟩ ⟨rfl,rfl⟩ ?_ ?_ ?_ ?_⟩
       ·rw [Rf]; omega
       ·rintro i zs H2 ⟨_,rfl⟩
        rw [Qd,Qd,Ji]; omega
       ·rintro i zs H2 ⟨rfl,_⟩
        exact hb
       ·rintro i zs σ x H2 hx ⟨v,rfl⟩ ⟨rfl,rfl⟩ hz
        obtain ⟨dx,DH,yy⟩:=kX fg hx
        refine cQ ?_
        refine ⟨_,rfl,_,rfl,n,x,dx,rfl,yy,hz,⟨some x,rfl⟩,rfl,?_⟩
        rw [Jw,DH]
        simp
       ·rintro zs H2 ⟨rfl,rfl⟩ p hp
        refine ⟨p,_,rfl,au.of aB,?_⟩
        have e2:((ws.take ys.length).map (cA n)).all id=ws.all (cA n):=by
         rw [wc,Jr,Wt]
         rfl
        rw [e2]
        exact k _ (aD.new hp)
def gF (l:List Int):PyData:=.tuple (l.map .int)
def mH (n:Int) (ws:List (List Int)):PyData:=.tuple [.int n,.tuple (ws.map gF)]
def xF (hs:List Int):PyData:=.tuple (hs.map .int)
def iF:PyData->List Int->Bool
 | .int i,l=>l.any (·==i)
 | _,_=>false
def sE (ws:List (List Int)):PyData->Bool
 | .tuple hs=>decide (hs.length=ws.length) && (hs.zip ws).all λp=>iF p.1 p.2
 | _=>false
theorem jQ (l:List Int):(l.map V.int).all pW=true:=by
 rw [Wt]
 exact Jv.mpr λ_ _=>rfl
theorem yU (i:Int) (l:List Int):uf (.int i) (l.map V.int)=l.any (·==i):=by
 unfold uf
 rw [Yi]
 rfl
theorem lG {n:Int} {x:V} (h:Den K H (mH n ws) x):∃ a b ys,x=.ref a/\aq K H a [.int n,.ref b]/\aq K H b ys/\bP K H (ws.map gF) ys:=by
 obtain ⟨a,xs,rfl,ha,lj⟩:=bC.mp h
 obtain ⟨xh,r1,rfl,hh,h2⟩:=bG.mp lj
 obtain ⟨xw,r2,rfl,hw,h3⟩:=bG.mp h2
 obtain rfl:=bY.mp h3
 obtain rfl:=cF.mp hh
 obtain ⟨b,ys,rfl,hb,p_⟩:=bC.mp hw
 exact ⟨a,b,ys,rfl,ha,hb,p_⟩
theorem aZ {n:Int} (h:iQ (mH n ws)=true):1<=n/\n<=6/\ws.length<=12/\∀ l∈ws,cA n (gF l)=true:=by
 have h':(decide (1<=n) && decide (n<=6) && decide ((ws.map gF).length<=12) && (ws.map gF).all (cA n))=true:=h
 simp only [Jc,decide_eq_true_eq,Qd,Jv] at h'
 exact ⟨h'.1.1.1,h'.1.1.2,h'.1.2,λl hl=>h'.2 _ (Xu.mpr ⟨l,hl,rfl⟩)⟩
theorem aFF {k:Nat} {t:Aj} (hK:X.K=K) (hc:X.calm=true) (h:En X es t) (hn:(assignEach es X.env).length=n:=by rfl) (ig:(assignEach es X.env).findIdx? (·.1)=none:=by rfl):PG X (.Tuple es k pos) (R9 K n t):=by
 subst hK
 exact oW hc h hn ig
theorem gY (hK:X.K=K):fm X (compareOp .In) (Dd K false):=by subst hK; exact aCJ
theorem yV (hK:X.K=K):Ez X (RY K):=by subst hK; exact cC
theorem kR (hK:X.K=K):eT X (.builtin "len") (λxs H Q=>∃ p ys,xs = [.ref p]/\(au K H p ys∨aq K H p ys)/\Q (.int ys.length) H):=by subst hK; exact bB
theorem vB (hK:X.K=K):eT X (.type "tuple") (λxs H Q=>∃ p ys,xs = [.ref p]/\((au K H p ys/\∀ l,H l=none->Q (.ref l) (upd H l (.tup ys)))∨(aq K H p ys/\Q (.ref p) H))):=by subst hK; exact iW
theorem aBx (hK:X.K=K):ym X "tuple.count" (λx vs H Q=>∃ (a:Addr) (ns:List Int) (n:Int),x=.ref a/\vs = [.int n]/\aq K H a (ns.map V.int)/\Q (.int (ns.count n:Nat)) H):=by subst hK; exact aCO
section
structure Pr (K:Rb) (mg:Str->Option Value) (fW fH fK fB uz fD uy fL:Addr) (dW dH dK dB u4 dD u3 dL:FuncData):Prop where
 W:Fn K mg "is_whole" lT ["thing"] fW dW
 H:Fn K mg "are_hands" pH ["thing"] fH dH
 Kw:Fn K mg "is_work" pI ["hands", "thing"] fK dK
 B:Fn K mg "is_book" uY ["thing"] fB dB
 NB:Fn K mg "need_book" Ln ["book"] uz u4
 D:Fn K mg "is_deal" yQ ["book", "thing"] fD dD
 ND:Fn K mg "need_deal" Ll ["book", "deal"] uy u3
 C:∃ f d,Fn K mg "counted" jY ["hands", "deal"] f d
 L:Fn K mg "loads" Lk ["book", "deal"] fL dL
variable {dK:FuncData}
def UC (K:Rb):Sp:=λvs H Q _=>∃ x d,vs = [x]/\Den K H d x/\iQ d=true/\∀ H',aD H H'->Q .br H'
theorem aFG:af ["book"] ["book"] (aI Ln):=.of
theorem aEa (B:Bl mg) (R:Pr K mg fW fH fK fB uz fD uy fL dW dH dK dB u4 dD u3 dL):ae P w K mg base ao 4 uz u4 ["book"] (UC K):=by
 have OB:ae P w K mg base ao 3 fB dB ["thing"] (UD K):=aD9 R.B B R.W R.H R.Kw
 refine R.NB.fn.oK aFG λbg A outer s H vs Q E hr h=>?_
 ·obtain ⟨x,d,rfl,hd,hb,k⟩:=h
  refine ⟨_,aJ (bI (bV (bL (aW R.B OB hr rfl (aA (pv 0) aC)))) dY aS),?_⟩
  refine ⟨_,rfl,x,d,rfl,hd,λH' hs=>⟨_,rfl,?_⟩⟩
  rw [hb]
  refine oH ?_
  exact k H' hs
def UB (K:Rb):Sp:=λvs H Q _=>∃ x y n ws d,vs = [x,y]/\Den K H (mH n ws) x/\iQ (mH n ws)=true/\Den K H d y/\∀ H',aD H H'->Q (.bl (sE ws d)) H'
theorem UA:af ["book", "thing", "works"] ["book", "thing"] (aI yQ):=.of
theorem aEb (B:Bl mg) (R:Pr K mg fW fH fK fB uz fD uy fL dW dH dK dB u4 dD u3 dL):ae P w K mg base ao 5 fD dD ["book", "thing"] (UB K):=by
 have ON:ae P w K mg base ao 4 uz u4 ["book"] (UC K):=aEa B R
 have OW:ae P w K mg base ao 1 fW dW ["thing"] (lW K):=qO R.W B
 refine R.D.fn.oK UA λbg A outer s H vs Q E hr h=>?_
 ·obtain ⟨x,y,n,ws,d,rfl,hx,hb,hd,k⟩:=h
  have ZL:aj 1 _:=hr.mono (by decide)
  refine ⟨_,aE (cK (aW R.NB ON hr rfl (aA (pv 0) aC)))
   (aE (aX (i:=2) UA.nd rfl (Or.inl rfl) (bM cC (pv 0) aH (λ_ _=>rfl)))
   (aE (bI (PW.pt (fZ (bV (bL (aL cW rfl B.isinstance iM (aA (pv 1) (aA (eI (v:=.ty "tuple") rfl B.tuple gE rfl) aC)))))
    (eV (aP oJ (aL bB rfl B.len eP (aA (pv 1) aC)) (aL bB rfl B.len eP (aA (pv 2) aC)) (aU _))))) (aJ (aR fY)) aS)
   (aJ (aR (aL (kU rfl) rfl B.all xD (aA
    (gD (own:=["hand", "able"]) (fr:=[]) (bo:=[]) (bK (aI yQ) ["book", "thing", "works"] rfl rfl (by decide +kernel)) rfl (aGY .t .t rfl B.zip (aA (pv 1) (aA (pv 2) aC)))
     (λ_ _ _ _=>aFF (K:=K) (n:=2) rfl rfl (dJ (aV (i:=0) (show (["hand", "able"]:List Str).Nodup by decide +kernel) rfl (Or.inl rfl)) (dJ (aV (i:=1) (show (["hand", "able"]:List Str).Nodup by decide +kernel) rfl (Or.inl rfl)) lO)))
     (λ_ _ _ _=>eM) (λ_ _ _ _=>oV (aW R.W OW ZL rfl (aA (pv 0) aC)) (oU (gN (gY (K:=K) rfl) (pv 0) (pv 1) (by with_unfolding_all rfl))))) aC)))))),?_⟩
  refine ⟨_,rfl,x,mH n ws,rfl,hx,hb,λH1 s1=>?_⟩
  have OI:=s1.den _ _ hx
  have j0:=s1.den _ _ hd
  obtain ⟨a,b,ys,rfl,ha,oa,p_⟩:=lG OI
  have wc:=bZ p_
  rw [Qd] at wc
  refine ⟨_,rfl,a,_,1,.ref b,rfl,rfl,ha,rfl,?_⟩
  refine ⟨_,rfl,y,mJ d,rfl,j0.kd,_,rfl,?_⟩
  refine gI (λc=>?_) (λc=>?_)
  ·refine kN ?_
   have e:false=sE ws d:=by
    cases d <;> first | rfl | (exfalso; simp [mJ] at c)
   rw [e]; exact k H1 s1
  ·obtain ⟨hs,rfl⟩:∃ hs,d=.tuple hs:=by cases d <;> first | exact ⟨_,rfl⟩ | (exfalso; simp [mJ] at c)
   obtain ⟨a2,xs,rfl,Kc,ui⟩:=bC.mp j0
   have ZZ:=bZ ui
   refine ⟨_,rfl,a2,xs,rfl,.inr Kc,_,rfl,b,ys,rfl,.inr oa,rfl,_,rfl,?_⟩
   refine gI (λc2=>?_) (λc2=>?_)
   ·have e:false=sE ws (.tuple hs):=by
     show _=(decide (hs.length=ws.length) && (hs.zip ws).all λp=>iF p.1 p.2)
     rw [decide_eq_false]
     ·rfl
     ·intro z
      have:(V.int (xs.length:Int)=V.int (ys.length:Int)):=by rw [ZZ,wc,z]
      simp [this] at c2
    rw [e]; exact k H1 s1
   ·have heq:xs.length=ys.length:=by
     have:V.int (xs.length:Int)=V.int (ys.length:Int):=by simpa using c2
     injection this with this
     omega
    have e0:sE ws (.tuple hs)=(hs.zip ws).all λp=>iF p.1 p.2:=by
     show (decide (hs.length=ws.length) && _)=_
     rw [decide_eq_true (by omega:hs.length=ws.length),Xx]
    rw [e0] at k
    obtain ⟨_,_,lu,_⟩:=aZ hb
    refine ⟨_,rfl,_,rfl,a2,b,xs,ys,rfl,Kc,oa,aDI (K:=K) (k1:=.t) (k2:=.t) (a:=a2) (b:=b) (xs:=xs) (ys:=ys) (λσ=>∃ u v,σ = [u,v]) (λi zs H2=>aD H1 H2/\zs=(((hs.zip ws).take i).map λp=>iF p.1 p.2).map V.bl) ?_ heq ⟨none,none,rfl⟩ ⟨aD.refl H1,rfl⟩ ?_ ?_ ?_ ?_⟩
    ·rw [Rf]; omega
    ·rintro i zs H2 ⟨_,rfl⟩
     rw [Qd,Qd,Ji]; omega
    ·rintro i zs H2 ⟨s2,_⟩
     exact ⟨s2.ah Kc,s2.ah oa⟩
    ·rintro i zs σ u v p H2 hu hv ⟨u0,v0,rfl⟩ ⟨s2,rfl⟩ hp hz
     obtain ⟨du,χ,Ff⟩:=kX ui hu
     obtain ⟨dv,tf,B4⟩:=kX p_ hv
     rw [Qi] at tf
     obtain ⟨l,hl,rfl⟩:∃ l,ws[i]?=some l/\gF l=dv:=by
      cases q:ws[i]? with
      | none=>rw [q] at tf; cases tf
      | some l=>rw [q] at tf; exact ⟨l,rfl,Option.some.inj tf⟩
     have s3:aD H1 (upd H2 p (.tup [u,v])):=s2.trans (aD.new hp)
     have MO:(hs.zip ws)[i]?=some (du,l):=by rw [Je]; exact ⟨χ,hl⟩
     have AA:(((hs.zip ws).take (i+1)).map λp=>iF p.1 p.2).map V.bl=(((hs.zip ws).take i).map λp=>iF p.1 p.2).map V.bl++[V.bl (iF du l)]:=by
      rw [Jw,MO]; simp
     refine ⟨p,_,rfl,aq.of aB,rfl,_,_,rfl,_,_,rfl,rfl,?_⟩
     refine aFE ?_
     refine ⟨_,rfl,u,du,rfl,s3.den _ _ Ff,_,rfl,?_⟩
     refine gI (λc3=>?_) (λc3=>?_)
     ·obtain ⟨j,rfl⟩:∃ j,du=.int j:=by cases du <;> first | exact ⟨_,rfl⟩ | (exfalso; simp [gX] at c3)
      obtain rfl:=cF.mp Ff
      obtain ⟨av,rfl,Ω⟩:=cU.mp B4
      refine ⟨_,rfl,_,rfl,av,_,rfl,.inr (s3.ah Ω),rfl,jQ l,hz,⟨_,_,rfl⟩,s3,?_⟩
      rw [AA]
      show _++[V.bl (uf (.int j) (l.map V.int))]=_
      rw [yU]
      rfl
     ·have e:iF du l=false:=by cases du <;> first | rfl | (exfalso; simp [gX] at c3)
      refine ⟨hz,⟨_,_,rfl⟩,s3,?_⟩
      rw [AA,e]
    ·rintro zs H2 ⟨s2,rfl⟩ p hp
     refine ⟨p,_,rfl,au.of aB,?_⟩
     have e2:(((hs.zip ws).take xs.length).map λp=>iF p.1 p.2).all id=(hs.zip ws).all λp=>iF p.1 p.2:=by
      rw [Jn (by rw [Xr]; omega),Wt]
      rfl
     rw [e2]
     exact k _ (s1.trans (s2.trans (aD.new hp)))
end
def bS (n:Int) (hs:List Int):List Int:=(CY n.toNat).map λh=>((hs.count h:Nat):Int)
theorem vC (h:i < n):(CY n)[i]?=some (i:Int):=by
 unfold CY
 rw [Qi,List.getElem?_range h]
 rfl
theorem gK (n:Nat):(CY n).length=n:=by unfold CY; rw [Qd,List.length_range]
theorem Lj {o:Expr} {t:TA} {id:String} {r:V->List V->Hp->VK->Prop} (hK:X.K=K) (pa:PlainAttrs T) (slot:Slot T name id) (Ct:typeOf (.builtin id)=pure (.type "method_descriptor")) (hm:ym X id r) (ho:PE X o to) (ha:PA X (e::es) t) (ni:attributeBase o name X.env (eval o X.env)=eval o X.env:=by rfl) (BY:((backTo c_ (starEach (e::es) X.env)).all (λx=>!x.1) && (backToKw c_ (keywordEach [] X.env)).all (λx=>x.1.isSome)
   && decide ((e::es).length+([]:List Keyword).length+(if ([]:List Keyword).isEmpty then 0 else 1) < 30))=true:=by rfl) (m8:(apos.endLine==c_.line)=true:=by rfl) (hs:starEach (e::es) X.env=(false,eval e X.env)::starEach es X.env:=by rfl) (pk:(backTo c_ (starEach es X.env)).any (·.1)=false:=by rfl) :
  PE X (.Call (.Attribute o name apos) (e::es) [] c_) (FG K T r to t):=by
 subst hK
 exact kI pa slot Ct hm ho ha ni BY m8 hs pk
section
variable {dK:FuncData}
def rM (K:Rb) (H:Hp) (x y:V) (n:Int) (ws:List (List Int)) (hs:List Int):Prop:=Den K H (mH n ws) x/\iQ (mH n ws)=true/\Den K H (xF hs) y/\sE ws (xF hs)=true
theorem rM.same {x:V} {n:Int} (g:rM K H x y n ws hs) (e:aD H H'):rM K H' x y n ws hs:=⟨e.den _ _ g.1,g.2.1,e.den _ _ g.2.2.1,g.2.2.2⟩
theorem rM.len {x:V} {n:Int} (g:rM K H x y n ws hs):hs.length<=12/\1<=n/\n<=6:=by
 obtain ⟨h1,h2,h3,_⟩:=aZ g.2.1
 have h:(decide ((hs.map PyData.int).length=ws.length) && ((hs.map PyData.int).zip ws).all λp=>iF p.1 p.2)=true:=g.2.2.2
 simp only [Jc,decide_eq_true_eq,Qd] at h
 omega
def T_ (K:Rb):Sp:=λvs H Q _=>∃ x y n ws hs,vs = [x,y]/\rM K H x y n ws hs/\∀ H',aD H H'->Q .br H'
theorem aFH:af ["book", "deal"] ["book", "deal"] (aI Ll):=.of
theorem aEc (B:Bl mg) (R:Pr K mg fW fH fK fB uz fD uy fL dW dH dK dB u4 dD u3 dL):ae P w K mg base ao 6 uy u3 ["book", "deal"] (T_ K):=by
 have OD:ae P w K mg base ao 5 fD dD ["book", "thing"] (UB K):=aEb B R
 refine R.ND.fn.oK aFH λbg A outer s H vs Q E hr h=>?_
 ·obtain ⟨x,y,n,ws,hs,rfl,⟨g1,g2,g3,g4⟩,k⟩:=h
  refine ⟨_,aJ (bI (bV (bL (aW R.D OD hr rfl (aA (pv 0) (aA (pv 1) aC))))) dY aS),?_⟩
  refine ⟨_,rfl,_,rfl,x,y,n,ws,xF hs,rfl,g1,g2,g3,λH' hs=>⟨_,rfl,?_⟩⟩
  rw [g4]
  refine oH ?_
  exact k H' hs
def lH (K:Rb):Sp:=λvs H Q _=>∃ (n:Int) (b:Addr) (hs:List Int),vs = [.int n,.ref b]/\aq K H b (hs.map V.int)/\0<=n/\n<=6/\∀ p H',aD H H'->H' p=some (.tup ((bS n hs).map V.int))->Q (.ref p) H'
theorem aC2:af ["hands", "deal"] ["hands", "deal"] (aI jY):=.of
theorem pJ (G:Fn K mg "counted" jY ["hands", "deal"] f fd) (B:Bl mg):ae P w K mg base ao 1 f fd ["hands", "deal"] (lH K):=by
 refine G.fn.oK aC2 λbg A outer s H vs Q E hr h=>?_
 ·obtain ⟨n,c,hs,rfl,hc,iu,gh,k⟩:=h
  refine ⟨_,aJ (aR (cR iW rfl B.tuple gE (aA
    (gD (own:=["hand"]) (fr:=[1]) (bo:=["deal"]) (bK (aI jY) ["hands", "deal"] rfl rfl (by decide +kernel)) rfl (dZ rfl B.range (aA (pv 0) aC))
     (λ_ _ _ _=>aV (i:=0) (show (["hand", "deal"]:List Str).Nodup by decide +kernel) rfl (Or.inl rfl)) (λ_ _ _ _=>eM)
     (λ_ _ _ _=>Lj (K:=K) rfl PySem.F.plainAttrs_tuple Im PySem.F.type_tuple_count (aBx (K:=K) rfl) (pv 1) (aA (pv 0) aC))) aC))),?_⟩
  refine ⟨_,rfl,n,rfl,by omega,by omega,jV (lo:=0) (n:=n.toNat) (λσ=>∃ v,σ = [v,some (.ref c)]) (λi zs H2=>H2=H/\zs=(((CY n.toNat).take i).map λh=>((hs.count h:Nat):Int)).map V.int) ?_ ⟨none,rfl⟩ ⟨rfl,rfl⟩ ?_ ?_ ?_⟩
  ·rw [Rf]; omega
  ·rintro i zs H2 ⟨_,rfl⟩
   rw [Qd,Qd,Ji]; omega
  ·rintro i zs σ H2 hi ⟨v,rfl⟩ ⟨rfl,rfl⟩ hz
   refine cQ ?_
   refine ⟨_,rfl,.inr (.inl ⟨rfl,_,hc⟩),_,rfl,c,hs,_,rfl,rfl,hc,hz,⟨_,rfl⟩,rfl,?_⟩
   rw [Jw,vC hi]
   simp
  ·rintro zs H2 ⟨rfl,rfl⟩ p hp
   refine ⟨p,_,rfl,.inl ⟨au.of aB,λl hl=>?_⟩⟩
   refine k l _ ((aD.new hp).trans (aD.new hl)) ?_
   rw [aB,Jn (by rw [gK]; exact Qh _)]
   rfl
def T9 (K:Rb):Sp:=λvs H Q _=>∃ x y n ws hs,vs = [x,y]/\rM K H x y n ws hs/\∀ p H',aD H H'->H' p=some (.tup ((bS n hs).map V.int))->Q (.ref p) H'
theorem aFI:af ["book", "deal"] ["book", "deal"] (aI Lk):=.of
theorem aEd (B:Bl mg) (R:Pr K mg fW fH fK fB uz fD uy fL dW dH dK dB u4 dD u3 dL):ae P w K mg base ao 7 fL dL ["book", "deal"] (T9 K):=by
 have ON:ae P w K mg base ao 6 uy u3 ["book", "deal"] (T_ K):=aEc B R
 obtain ⟨fC,dC,GC⟩:=R.C
 have OC:ae P w K mg base ao 1 fC dC ["hands", "deal"] (lH K):=pJ GC B
 refine R.L.fn.oK aFI λbg A outer s H vs Q E hr h=>?_
 ·obtain ⟨x,y,n,ws,hs,rfl,g,k⟩:=h
  have r1:aj 1 _:=hr.mono (by decide)
  refine ⟨_,aE (cK (aW R.ND ON hr rfl (aA (pv 0) (aA (pv 1) aC))))
   (aJ (aR (aW GC OC r1 rfl (aA (bM cC (pv 0) aH (λ_ _=>rfl)) (aA (pv 1) aC))))),?_⟩
  refine ⟨_,rfl,_,rfl,x,y,n,ws,hs,rfl,g,λH1 s1=>?_⟩
  have g1:=g.same s1
  obtain ⟨hl,iu,gh⟩:=g.len
  obtain ⟨a,b,ys,rfl,ha,oa,p_⟩:=lG g1.1
  obtain ⟨c,rfl,hc⟩:=cU.mp g1.2.2.1
  refine ⟨_,rfl,a,_,0,.int n,rfl,rfl,ha,rfl,_,rfl,n,c,hs,rfl,hc,by omega,gh,λp H2 s2 hp=>?_⟩
  exact k p H2 (s1.trans s2) hp
theorem wJ (n:Int) (hs:List Int):(bS n hs).length=n.toNat:=by unfold bS; rw [Qd,gK]
end
end Ab
namespace L2
open PySem PySem.Spec PyProof.Rows
def aH8 (i j:Int):Prop:=0 < j/\j.natAbs < 2^4000
theorem aEe:fm X (binaryOp .FloorDiv) (rI aH8 λi j=>.int (i / j)):=FN λi j _ _ _ _ _ hc q=>by
 have h1:(0:Int) < j:=hc.1
 refine floordiv_int (by omega) (by rw [Int.fdiv_eq_ediv_of_nonneg i (by omega)]; exact q) (.inl (PyProof.noPylong_of_log2 ?_))
 have h3:j.natAbs.log2 < 4000:=(Nat.log2_lt (by omega)).mpr hc.2
 omega
end L2
namespace Ab
open PySem L2
def ba (t:Addr) (H H':Hp):Prop:=∀ b o,b≠t->H b=some o->H' b=some o
theorem ba.refl (t:Addr) (H:Hp):ba t H H:=λ_ _ _ h=>h
theorem ba.trans (a:ba t H H1) (b:ba t H1 H2):ba t H H2:=λc o n h=>b c o n (a c o n h)
theorem ba.of (a:aD H H'):ba t H H':=λc o _ h=>a c o h
theorem ba.at {u:HO}:ba t H (upd H t u):=λc o n h=>by rw [aF n]; exact h
theorem ba.XX {a:Addr} (e:ba t H H') (n:a≠t) (h:Rd H a (.lst xs)):Rd H' a (.lst xs):=by
 rcases h with h | ⟨o,h⟩
 ·exact .inl (e a _ n h)
 ·exact .inr ⟨o,e a _ n h⟩
theorem ba.ah {a:Addr} (e:ba t H H') (ht:H t=some (.lst ys)) (h:aq K H a xs):aq K H' a xs:=by
 rcases h with (h | ⟨o,h⟩) | h
 ·exact .inl (.inl (e a _ (λz=>by rw [z,ht] at h; cases h) h))
 ·exact .inl (.inr ⟨o,e a _ (λz=>by rw [z,ht] at h; cases h) h⟩)
 ·exact .inr h
theorem ba.jm {a:Addr} (e:ba t H H') (n:a≠t) (h:au K H a xs):au K H' a xs:=by
 rcases h with h | h
 ·exact .inl (e.XX n h)
 ·exact .inr h
mutual
def vD:PyData->Bool
 | .dict _=>false
 | .list _=>false
 | .tuple ds=>sV ds
 | _=>true
def sV:List PyData->Bool
 | []=>true
 | d::ds=>vD d && sV ds
end
mutual
theorem ba.den (e:ba t H H') (ht:H t=some (.lst ys)):∀ (d:PyData) (v:V),vD d=true->Den K H d v->Den K H' d v
 | .none,v,_,h=>by unfold Den at h ⊢; exact h
 | .bool b,v,_,h=>by unfold Den at h ⊢; exact h
 | .int i,v,_,h=>by unfold Den at h ⊢; exact h
 | .str x,v,_,h=>by unfold Den at h ⊢; exact h
 | .list ds,v,n,h=>by unfold vD at n; cases n
 | .tuple ds,v,n,h=>by unfold vD at n; unfold Den at h ⊢; obtain ⟨a,xs,h1,h2,h3⟩:=h; exact ⟨a,xs,h1,e.ah ht h2,ba.cu e ht ds xs n h3⟩
 | .dict kvs,v,n,h=>by unfold vD at n; cases n
theorem ba.cu (e:ba t H H') (ht:H t=some (.lst ys)):∀ (ds:List PyData) (xs:List V),sV ds=true->bP K H ds xs->bP K H' ds xs
 | [],xs,_,h=>by unfold bP at h ⊢; exact h
 | d::ds,xs,n,h=>by
  unfold sV at n; rw [Jc] at n
  unfold bP at h ⊢; obtain ⟨x,r,h1,h2,h3⟩:=h; exact ⟨x,r,h1,ba.den e ht d x n.1 h2,ba.cu e ht ds r n.2 h3⟩
end
def c9 (K:Rb) (H:Hp) (t a:Addr) (ns:List Int) (N:Nat):Prop:=(∃ p q:Int,0<=p/\p<=N/\H t=some (.lst [.ref a,.int p,.int q]))/\au K H a (ns.map V.int)
section
variable {a:Addr} {N M:Nat}
theorem c9.same (h:c9 K H t a ns N) (e:aD H H'):c9 K H' t a ns N:=by
 obtain ⟨⟨p,q,h1,h0,h2⟩,h3⟩:=h
 exact ⟨⟨p,q,h1,h0,e t _ h2⟩,e.jm h3⟩
theorem c9.more (h:c9 K H t a ns N) (e:N<=M):c9 K H t a ns M:=by
 obtain ⟨⟨p,q,h1,h0,h2⟩,h3⟩:=h
 exact ⟨⟨p,q,h1,by omega,h2⟩,h3⟩
theorem c9.ne (h:c9 K H t a ns N) {b:Addr} (hb:H b=none):b≠t:=by
 obtain ⟨⟨p,q,h1,h0,h2⟩,h3⟩:=h
 intro z
 rw [z,h2] at hb
 cases hb
end
theorem aBz {a:Addr} {r:List V} (h:ns.map V.int=.ref a::r):False:=by
 cases ns with
 | nil=>cases h
 | cons _ _=>rw [Qz] at h; cases h
theorem kA {a:Addr} {p q:Int} {u:HO} (h2:H t=some (.lst [.ref a,.int p,.int q])) (h:au K H a (ns.map V.int)):au K (upd H t u) a (ns.map V.int):=by
 rcases h with (h | ⟨o,h⟩) | h
 ·have n:a≠t:=λz=>by
   rw [z,h2] at h
   injection h with h
   injection h with h
   exact aBz h.symm
  exact .inl (.inl (by rw [aF n]; exact h))
 ·have n:a≠t:=λz=>by
   rw [z,h2] at h
   cases h
  exact .inl (.inr ⟨o,by rw [aF n]; exact h⟩)
 ·exact .inr h
theorem jE (ns:List Int):eO (.list (ns.map .int))=true:=by
 unfold eO
 induction ns with
 | nil=>unfold List.map jK; rfl
 | cons n r ih=>rw [Qz]; unfold jK; rw [ih]; unfold eO; rfl
theorem lX (f:α->PyData) (h:∀ x,(f x).canLay0=true):∀ l:List α,PyData.canLayAll0 (l.map f)=true
 | []=>by unfold List.map PyData.canLayAll0; rfl
 | x::r=>by rw [Qz]; unfold PyData.canLayAll0; rw [h x,lX f h r]; rfl
theorem nS {k:Nat} (f:α->PyData) (h:∀ x,(f x).depth<=k):∀ l:List α,PyData.depthAll (l.map f)<=k
 | []=>by unfold List.map PyData.depthAll; exact Jt _
 | x::r=>by rw [Qz]; unfold PyData.depthAll; exact Nat.max_le.mpr ⟨h x,nS f h r⟩
theorem pK (i:Int):(PyData.int i).canLay0=true:=by unfold PyData.canLay0; rfl
theorem rN (i:Int):(PyData.int i).depth<=0:=by unfold PyData.depth; exact Qh _
theorem yW (ns:List Int):(PyData.list (ns.map .int)).canLay0=true:=by unfold PyData.canLay0; exact lX _ pK ns
theorem yX (ns:List Int):(PyData.tuple (ns.map .int)).canLay0=true:=by unfold PyData.canLay0; exact lX _ pK ns
theorem aAK (ns:List Int):(PyData.list (ns.map .int)).depth<=1:=by unfold PyData.depth; exact Zx (nS _ rN ns)
theorem aAL (ns:List Int):(PyData.tuple (ns.map .int)).depth<=1:=by unfold PyData.depth; exact Zx (nS _ rN ns)
theorem nU (h1:d.canLay0=true) (h2:d.depth<=64):SeqAt.shaped d=true:=by
 unfold SeqAt.shaped
 rw [h1,decide_eq_true h2]
 rfl
theorem gZ (ns:List Int):SeqAt.shaped (.list (ns.map .int))=true:=nU (yW ns) (Ja (aAK ns) (by decide))
theorem iG (ns:List Int):SeqAt.shaped (.tuple (ns.map .int))=true:=nU (yX ns) (Ja (aAL ns) (by decide))
theorem iH (ns:List Int):eO (.tuple (ns.map .int))=true:=by
 have h:=jE ns
 unfold eO at h ⊢
 exact h
theorem _root_.L2.aj.FD {k:Nat} (r:aj k A):A.units+64 < cLine:=by have:=r.un; omega
def T2:Sp:=λvs H Q _=>∃ c a:Int,vs = [.int c,.int a]/\0<=a/\a<=1000000/\∀ r,Q (.int r) H
theorem sW:af ["cell", "at", "one", "two", "three"] ["cell", "at"] (aI yR):=.of
theorem aEf (G:Fn K mg "_law_e_whirl" yR ["cell", "at"] f fd):ae P w K mg base ao 1 f fd ["cell", "at"] T2:=by
 refine G.fn.oK sW λbg A outer s H vs Q E hr h=>?_
 ·obtain ⟨c,a,rfl,a0,a1,k⟩:=h
  refine ⟨_,(aE (bI (aP G7 (pv 0) (aY xT aH aH) (aU _))
   (aJ (aR (pv 0)))
   aS)
  (aE (aX (i:=2) sW.nd rfl (Or.inl rfl) (aY oZ (aY eD (aY eD (aY hX (aY oZ (pv 0) aH) aH) (aY hX (pv 1) aH)) aH) aH))
  (aE (aX (i:=3) sW.nd rfl (Or.inl rfl) (aY oZ (aY eD (aY eD (aY eD (aY hX (pv 2) (pv 2)) (aY hX (aY hX aH (pv 1)) (pv 1))) (aY hX aH (pv 2))) aH) aH))
  (aE (aX (i:=4) sW.nd rfl (Or.inl rfl) (aY oZ (aY eD (aY eD (aY eD (aY hX (pv 3) (pv 3)) (aY hX aH (pv 3))) (pv 2)) (aY hX aH (pv 1))) aH))
  (aJ (aR (aY eD (aY hX (pv 3) aH) (pv 4)))))))),?_⟩
  refine ⟨_,rfl,_,_,rfl,rfl,⟨by decide,by decide,by decide⟩,_,_,rfl,rfl,_,rfl,?_⟩
  refine gI (λc1=>?_) (λc1=>?_)
  ·exact ⟨_,rfl,k _⟩
  ·refine ⟨_,rfl,_,_,rfl,rfl,(show (0:Int) < _ by decide),_,_,rfl,rfl,.inr ⟨by decide,by decide⟩,_,rfl,_,_,rfl,rfl,.inr ⟨by decide,by decide⟩,_,_,rfl,rfl,_,_,rfl,rfl,_,_,rfl,rfl,(show (0:Int) < _ by decide),?_⟩
   generalize hf:((c % 2147483423*40013+a*15073+83) % 2147483399:Int)=f1
   have b1:0<=f1/\f1 < 2147483399:=by rw [<- hf]; exact ⟨Zo _ (by decide),Zp _ (by decide)⟩
   refine ⟨_,rfl,_,rfl,_,_,rfl,rfl,.inl ⟨by omega,by omega⟩,_,rfl,_,_,rfl,rfl,.inl ⟨by decide,by decide⟩,_,rfl,_,_,rfl,rfl,.inr ⟨by omega,by omega⟩,_,_,rfl,rfl,_,rfl,_,_,rfl,rfl,.inl ⟨by decide,by decide⟩,_,_,rfl,rfl,_,_,rfl,rfl,_,_,rfl,rfl,(show (0:Int) < _ by decide),?_⟩
   generalize hg:((f1*f1+521*a*a+11*f1+7) % 2147483353:Int)=f2
   have b2:0<=f2/\f2 < 2147483353:=by rw [<- hg]; exact ⟨Zo _ (by decide),Zp _ (by decide)⟩
   refine ⟨_,rfl,_,rfl,_,_,rfl,rfl,.inl ⟨by omega,by omega⟩,_,rfl,_,_,rfl,rfl,.inl ⟨by decide,by decide⟩,_,_,rfl,rfl,_,rfl,_,_,rfl,rfl,_,rfl,_,_,rfl,rfl,.inl ⟨by decide,by decide⟩,_,_,rfl,rfl,_,_,rfl,rfl,(show (0:Int) < _ by decide),?_⟩
   exact ⟨_,rfl,_,_,rfl,rfl,.inr ⟨by decide,by decide⟩,_,rfl,_,_,rfl,rfl,k _⟩
def jM (K:Rb):Sp:=λvs H Q _=>∃ (t a:Addr) (ns:List Int) (N:Nat) (m:Int),vs = [.ref t,.int m]/\c9 K H t a ns N/\N<=900000/\0 < m/\m.natAbs < 2^4000/\∀ r H',0<=r->r < m->ba t H H'->c9 K H' t a ns (N+1)->Q (.int r) H'
theorem nV:af ["jar", "many", "at", "cell", "found"] ["jar", "many"] (aI kQ):=.of
theorem aEg {DX:FuncData} (G:Fn K mg "_law_e_scoop" kQ ["jar", "many"] f fd) (B:Bl mg) (C0:Fn K mg "_law_e_whirl" yR ["cell", "at"] fS DX):ae P w K mg base ao 2 f fd ["jar", "many"] (jM K):=by
 have Er:ae P w K mg base ao 1 fS DX ["cell", "at"] T2:=aEf C0
 refine G.fn.oK nV λbg A outer s H vs Q E hr h=>?_
 ·obtain ⟨t,a,ns,N,m,rfl,⟨⟨p,q,hp,hpN,ht⟩,jg⟩,hN,qd,sx,k⟩:=h
  have r1:aj 1 _:=hr
  refine ⟨_,(aE (bI (aP wM (bM cM (pv 0) aH (λ_ _=>rfl)) (pv 1) (aU _))
   (aE (aX (i:=2) nV.nd rfl (Or.inl rfl) (bM cM (pv 0) aH (λ_ _=>rfl)))
  (aE (aX (i:=3) nV.nd rfl (Or.inl rfl) (aY eD (aY hX aH (pv 2)) aH))
  (aE (bI (aP wM (pv 2) (aL bB rfl B.len eP (aA (bM cM (pv 0) aH (λ_ _=>rfl)) aC)) (aU _))
   (aJ (aX (i:=3) nV.nd rfl (Or.inl rfl) (bM cM (bM cM (pv 0) aH (λ_ _=>rfl)) (pv 2) (λ_ _=>rfl))))
   (aJ (bI (aP mM (aL bB rfl B.len eP (aA (bM cM (pv 0) aH (λ_ _=>rfl)) aC)) aH (aU _))
   (aJ (aX (i:=3) nV.nd rfl (Or.inl rfl) (aY eD (aY oZ (bM cM (bM cM (pv 0) aH (λ_ _=>rfl)) (aY oZ (aY eD (aY hX aH (pv 2)) aH) (aL bB rfl B.len eP (aA (bM cM (pv 0) aH (λ_ _=>rfl)) aC))) (λ_ _=>rfl)) aH) (aY hX (pv 2) aH))))
   aS)))
  (aE (tM (aY eD (pv 2) aH) (xS (pv 0) aH pV))
  (aJ (tM (aW C0 Er r1 rfl (aA (pv 3) (aA (pv 2) aC))) (xS (pv 0) aH pV)))))))
   aS)
  (aE (aX (i:=4) nV.nd rfl (Or.inl rfl) (aY oZ (bM cM (pv 0) aH (λ_ _=>rfl)) (pv 1)))
  (aE (tM (aY aEe (bM cM (pv 0) aH (λ_ _=>rfl)) (pv 1)) (xS (pv 0) aH pV))
  (aJ (aR (pv 4)))))),?_⟩
  have last:∀ (p1 r:Int) (H':Hp),0<=p1->p1<=N+1->ba t H H'->H' t=some (.lst [.ref a,.int p1,.int r])->au K H' a (ns.map V.int)->Q (.int (r % m)) (upd H' t (.lst [.ref a,.int p1,.int (r / m)])):=λp1 r H' h0 h1 b' h2 h3 =>
   k _ _ (Zo _ (by omega)) (Zp _ qd) (b'.trans ba.at) ⟨⟨p1,r / m,h0,by omega,aB⟩,kA h2 h3⟩
  refine ⟨_,rfl,t,_,2,.int q,rfl,rfl,au.of ht,rfl,_,rfl,_,_,rfl,rfl,_,rfl,?_⟩
  refine gI (λc1=>?_) (λc1=>?_)
  ·refine ⟨_,rfl,t,_,1,.int p,rfl,rfl,au.of ht,rfl,?_⟩
   refine ⟨_,rfl,_,_,rfl,rfl,.inl ⟨by decide,by decide⟩,_,_,rfl,rfl,?_⟩
   refine ⟨_,rfl,_,rfl,t,_,0,.ref a,rfl,rfl,au.of ht,rfl,a,_,rfl,.inl jg,_,_,rfl,rfl,_,rfl,?_⟩
   refine gI (λc2=>?_) (λc2=>?_)
   ·have R!:p < ((ns.map V.int).length:Int):=of_decide_eq_true c2
    rw [Qd] at R!
    have bw:p.toNat < ns.length:=by omega
    have rj:qj (ns.map V.int) p=some (.int (ns[p.toNat])):=by
     have h1:(ns.map V.int)[p.toNat]?=some (.int (ns[p.toNat])):=by rw [Qi,Qb bw]; rfl
     have h2:=gA h1
     rwa [Wo hp] at h2
    refine ⟨_,rfl,t,_,0,.ref a,rfl,rfl,au.of ht,rfl,_,rfl,a,_,_,_,rfl,rfl,jg,rj,?_⟩
    refine ⟨_,rfl,_,_,rfl,rfl,_,rfl,t,_,_,1,rfl,rfl,ht,rfl,?_⟩
    refine ⟨_,rfl,_,rfl,_,_,rfl,hp,by omega,λr=>⟨_,rfl,t,_,_,2,rfl,rfl,aB,rfl,?_⟩⟩
    refine ⟨_,rfl,t,_,2,.int r,rfl,rfl,au.of aB,rfl,_,rfl,_,_,rfl,rfl,qd,?_⟩
    refine ⟨_,rfl,t,_,2,.int r,rfl,rfl,au.of aB,rfl,_,rfl,_,_,rfl,rfl,⟨qd,sx⟩,_,rfl,t,_,_,2,rfl,rfl,aB,rfl,?_⟩
    exact ⟨_,rfl,last (p+1) r _ (by omega) (by omega) (ba.at.trans ba.at) aB (kA (p:=p+1) (q:=q) aB (kA ht jg))⟩
   ·refine ⟨_,rfl,t,_,0,.ref a,rfl,rfl,au.of ht,rfl,a,_,rfl,.inl jg,_,_,rfl,rfl,_,rfl,?_⟩
    refine gI (λc3=>?_) (λc3=>?_)
    ·have vf:0 < ns.length:=by
      have:=of_decide_eq_true c3
      rw [Qd] at this
      omega
     have bw:((7*p+3) % (ns.length:Int)).toNat < ns.length:=by
      have:=Zo (7*p+3) (show (ns.length:Int)≠0 by omega)
      have:=Zp (7*p+3) (show (0:Int) < ns.length by omega)
      omega
     have rj:qj (ns.map V.int) ((7*p+3) % ((ns.map V.int).length:Int))=some (.int (ns[((7*p+3) % (ns.length:Int)).toNat])):=by
      have h1:(ns.map V.int)[((7*p+3) % (ns.length:Int)).toNat]?=some (.int (ns[((7*p+3) % (ns.length:Int)).toNat])):=by rw [Qi,Qb bw]; rfl
      have h2:=gA h1
      rw [Qd]
      rwa [Wo (Zo _ (by omega))] at h2
     refine ⟨_,rfl,t,_,0,.ref a,rfl,rfl,au.of ht,rfl,_,rfl,_,_,rfl,rfl,.inl ⟨by decide,by decide⟩,_,_,rfl,rfl,_,rfl,t,_,0,.ref a,rfl,rfl,au.of ht,rfl,a,_,rfl,.inl jg,_,_,rfl,rfl,(show (0:Int) < ((ns.map V.int).length:Int) by rw [Qd]; omega),a,_,_,_,rfl,rfl,jg,rj,_,_,rfl,rfl,(show (0:Int) < _ by decide),_,rfl,_,_,rfl,rfl,.inr ⟨by decide,by decide⟩,_,_,rfl,rfl,?_⟩
     refine ⟨_,rfl,_,_,rfl,rfl,_,rfl,t,_,_,1,rfl,rfl,ht,rfl,?_⟩
     refine ⟨_,rfl,_,rfl,_,_,rfl,hp,by omega,λr=>⟨_,rfl,t,_,_,2,rfl,rfl,aB,rfl,?_⟩⟩
     refine ⟨_,rfl,t,_,2,.int r,rfl,rfl,au.of aB,rfl,_,rfl,_,_,rfl,rfl,qd,?_⟩
     refine ⟨_,rfl,t,_,2,.int r,rfl,rfl,au.of aB,rfl,_,rfl,_,_,rfl,rfl,⟨qd,sx⟩,_,rfl,t,_,_,2,rfl,rfl,aB,rfl,?_⟩
     exact ⟨_,rfl,last (p+1) r _ (by omega) (by omega) (ba.at.trans ba.at) aB (kA (p:=p+1) (q:=q) aB (kA ht jg))⟩
    ·show _
     refine ⟨_,rfl,_,_,rfl,rfl,_,rfl,t,_,_,1,rfl,rfl,ht,rfl,?_⟩
     refine ⟨_,rfl,_,rfl,_,_,rfl,hp,by omega,λr=>⟨_,rfl,t,_,_,2,rfl,rfl,aB,rfl,?_⟩⟩
     refine ⟨_,rfl,t,_,2,.int r,rfl,rfl,au.of aB,rfl,_,rfl,_,_,rfl,rfl,qd,?_⟩
     refine ⟨_,rfl,t,_,2,.int r,rfl,rfl,au.of aB,rfl,_,rfl,_,_,rfl,rfl,⟨qd,sx⟩,_,rfl,t,_,_,2,rfl,rfl,aB,rfl,?_⟩
     exact ⟨_,rfl,last (p+1) r _ (by omega) (by omega) (ba.at.trans ba.at) aB (kA (p:=p+1) (q:=q) aB (kA ht jg))⟩
  ·show _
   refine ⟨_,rfl,t,_,2,.int q,rfl,rfl,au.of ht,rfl,_,rfl,_,_,rfl,rfl,qd,?_⟩
   refine ⟨_,rfl,t,_,2,.int q,rfl,rfl,au.of ht,rfl,_,rfl,_,_,rfl,rfl,⟨qd,sx⟩,_,rfl,t,_,_,2,rfl,rfl,ht,rfl,?_⟩
   exact ⟨_,rfl,last p q _ hp (by omega) (ba.refl _ _) ht jg⟩
theorem VH (n:Int):∀ (l:List Int) (last:Int),(∀ x∈l,last < x)->l.Pairwise (· < ·)->(∀ x∈l,x < n)->cT n last (l.map .int)=true
 | [],_,_,_,_=>rfl
 | x::r,last,h1,h2,h3=>by
  rw [Qz,jI]
  have mq:=Xa.mp h2
  rw [decide_eq_true (h1 x (Qp ..)),decide_eq_true (h3 x (Qp ..)),VH n r x mq.1 mq.2 (λy hy=>h3 y (Qk _ hy))]
  rfl
theorem lY {n:Int} (h0:l≠[]) (h1:∀ x∈l,0<=x/\x < n) (h2:l.Pairwise (· < ·)):cA n (gF l)=true:=by
 have e:cA n (gF l)=(!(l.map PyData.int).isEmpty && cT n (-1) (l.map .int)):=rfl
 rw [e,VH n l (-1) (λx hx=>by have:=(h1 x hx).1; omega) h2 (λx hx=>(h1 x hx).2)]
 cases l with
 | nil=>exact absurd rfl h0
 | cons _ _=>rfl
theorem sF (n:Int):∀ (l:List Int) (last:Int),cT n last (l.map .int)=true->l.Pairwise (· < ·)/\∀ x∈l,last < x/\x < n
 | [],_,_=>⟨.nil,λ_ h=>by cases h⟩
 | x::r,last,h=>by
  rw [Qz,jI,Jc,Jc] at h
  obtain ⟨⟨h1,h2⟩,h3⟩:=h
  have h1:=of_decide_eq_true h1
  have h2:=of_decide_eq_true h2
  obtain ⟨i1,i2⟩:=sF n r x h3
  refine ⟨Xa.mpr ⟨λy hy=>(i2 y hy).1,i1⟩,λy hy=>?_⟩
  rcases Ql.mp hy with rfl | hy
  ·exact ⟨h1,h2⟩
  ·exact ⟨by have:=(i2 y hy).1; omega,(i2 y hy).2⟩
theorem bA {n:Int} (h:cA n (gF l)=true):l≠[]/\(∀ x∈l,0<=x/\x < n)/\l.Pairwise (· < ·):=by
 have e:(!(l.map PyData.int).isEmpty && cT n (-1) (l.map .int))=true:=h
 rw [Jc] at e
 obtain ⟨h1,h2⟩:=sF n l (-1) e.2
 refine ⟨λz=>by rw [z] at e; simp at e,λx hx=>⟨by have:=(h2 x hx).1; omega,(h2 x hx).2⟩,h1⟩
theorem vE {n:Int}:∀ (l:List Int) (lo:Int),lo<=n->(∀ x∈l,lo<=x/\x < n)->l.Pairwise (· < ·)->(l.length:Int)<=n - lo
 | [],lo,h,_,_=>by simp; omega
 | x::r,lo,h,h1,h2=>by
  have mq:=Xa.mp h2
  have hx:=h1 x (Qp ..)
  have:=vE r (x+1) (by omega) (λy hy=>⟨by have:=mq.1 y hy; omega,(h1 y (Qk _ hy)).2⟩) mq.2
  rw [Jo]
  omega
theorem iR {n:Int} (hn:0<=n) (h1:∀ x∈l,0<=x/\x < n) (h2:l.Pairwise (· < ·)):(l.length:Int)<=n:=by
 have:=vE l 0 hn h1 h2
 omega
theorem HG (x:V) : [x].length<=sizeLine:=by rw [Rf]; simp
theorem i5 (x y:V) : [x,y].length<=sizeLine:=by rw [Rf]; simp
theorem iI (h:n<=1000):n<=sizeLine:=by rw [Rf]; omega
theorem iZ {n:Int} (h1:1<=n) (h2:n<=6) (h3:ws.length<=12) (h4:∀ l∈ws,cA n (gF l)=true):iQ (mH n ws)=true:=by
 show (decide (1<=n) && decide (n<=6) && decide ((ws.map gF).length<=12) && (ws.map gF).all (cA n))=true
 rw [decide_eq_true h1,decide_eq_true h2,Qd,decide_eq_true h3,Xx,Xx,Xx,Jv]
 intro d hd
 obtain ⟨l,hl,rfl⟩:=Xu.mp hd
 exact h4 l hl
def rO (K:Rb):Sp:=λvs H Q _=>∃ (t a:Addr) (ns:List Int) (N:Nat) (n:Int),vs = [.ref t,.int n]/\c9 K H t a ns N/\N<=800000/\1<=n/\n<=6/\∀ l p H',cA n (gF l)=true->ba t H H'->c9 K H' t a ns (N+8)->aq K H' p (l.map V.int)->Q (.ref p) H'
theorem yY:af ["jar", "hands", "often", "some"] ["jar", "hands"] (aI qM):=.of
set_option maxHeartbeats 1000000 in
theorem aFJ {DX:FuncData} (G:Fn K mg "_law_e_able" qM ["jar", "hands"] f fd) (B:Bl mg) (j6:Fn K mg "_law_e_scoop" kQ ["jar", "many"] fS DX) (j5:ae P w K mg base ao 2 fS DX ["jar", "many"] (jM K)):ae P w K mg base ao 3 f fd ["jar", "hands"] (rO K):=by
 refine G.fn.oK yY λbg A outer s H vs Q E hr h=>?_
 ·obtain ⟨t,a,ns,N,n,rfl,hJ,hN,iu,gh,k⟩:=h
  have r2:aj 2 _:=hr
  refine ⟨_,(aE (aX (i:=2) yY.nd rfl (Or.inr rfl) (aY eD aH (aW j6 j5 r2 rfl (aA (pv 0) (aA aH aC)))))
  (aE (aX (i:=3) yY.nd rfl (Or.inl rfl) (cR iW rfl B.tuple gE (aA (gD (own:=["hand"]) (fr:=[0,2]) (bo:=["jar", "often"]) (bK (aI qM) ["jar", "hands", "often", "some"] rfl rfl (by decide +kernel)) rfl (dZ rfl B.range (aA (pv 1) aC))
    (λ_ _ _ _=>(aV (i:=0) (show (["hand", "jar", "often"]:List Str).Nodup by decide +kernel) rfl (Or.inl rfl))) (λ_ _ _ _=>xZ (aP dX (aW j6 j5 r2 rfl (aA (pv 1) (aA (pv 2) aC))) aH (aU _)))
    (λ_ _ _ _=>(pv 0))) aC)))
  (aE (bI (aP (aGX hr.FD) (pv 3) (cB aC) (aU _))
   (aJ (aX (i:=3) yY.nd rfl (Or.inl rfl) (cB (aA (aW j6 j5 r2 rfl (aA (pv 0) (aA (pv 1) aC))) aC))))
   aS)
  (aJ (aR (pv 3)))))),?_⟩
  refine ⟨_,rfl,t,a,ns,N,3,rfl,hJ,by omega,by decide,by decide,λr H1 QM Gs b1 J1=>⟨_,_,rfl,rfl,?_⟩⟩
  refine ⟨_,rfl,n,rfl,by omega,by omega,jV (lo:=0) (n:=n.toNat) (λσ=>∃ v,σ = [v,some (.ref t),some (.int (2+r))]) (λi zs H2=>∃ l:List Int,zs=l.map V.int/\l.Pairwise (· < ·)/\(∀ x∈l,0<=x/\x < i)/\ba t H H2/\c9 K H2 t a ns (N+1+i)) (iI (by omega)) ⟨none,rfl⟩ ⟨[],rfl,.nil,λ_ h=>(Qt h).elim,b1,J1⟩ ?_ ?_ ?_⟩
  ·rintro i zs H2 ⟨l,rfl,hp,hb,_⟩
   rw [Qd]
   have:=iR (n:=(i:Int)) (by omega) hb hp
   omega
  ·rintro i zs σ H2 hi ⟨v,rfl⟩ ⟨l,rfl,hp,hb,b2,J2⟩ hz
   refine ⟨_,rfl,_,rfl,t,a,ns,N+1+i,2+r,rfl,J2,by omega,by omega,by omega,λr3 H3 h30 h31 b3 J3=>⟨rfl,_,rfl,?_⟩⟩
   refine gI (λc1=>?_) (λc1=>?_)
   ·refine ⟨_,rfl,hz,⟨_,rfl⟩,l++[0+(i:Int)],by rw [Qw]; rfl,Zf.mpr ⟨hp,by simp,λx hx y hy=>?_⟩,λx hx=>?_,b2.trans b3,J3⟩
    ·rw [Qx.mp hy]
     have:=hb x hx
     omega
    ·rcases Jg.mp hx with hx | hx
     ·have:=hb x hx
      omega
     ·rw [Qx.mp hx]
      omega
   ·exact ⟨⟨_,rfl⟩,l,rfl,hp,λx hx=>by have:=hb x hx; omega,b2.trans b3,J3⟩
  ·rintro zs H2 ⟨l,rfl,hp,hb,b2,J2⟩ z hz
   refine ⟨z,_,rfl,.inl ⟨au.of aB,λq hq=>?_⟩⟩
   have s3:=(aD.new (o:=.lst (l.map V.int)) hz).trans (aD.new (o:=.tup (l.map V.int)) hq)
   have e3:upd (upd H2 z (.lst (l.map V.int))) q (.tup (l.map V.int)) q=some (.tup (l.map V.int)):=aB
   generalize upd (upd H2 z (.lst (l.map V.int))) q (.tup (l.map V.int))=H3 at s3 e3 ⊢
   refine ⟨_,rfl,iI (Jt _),λz2 IV=>?_⟩
   have s4:=aD.new (o:=.tup []) IV
   refine ⟨.tuple (l.map .int),.tuple (([]:List Int).map .int),cU.mpr ⟨q,rfl,s4.ah (aq.of e3)⟩,cU.mpr ⟨z2,rfl,aq.of aB⟩,iH _,iH _,iG _,iG _,_,rfl,?_⟩
   have J4:=(J2.same s3).same s4
   have b4:=b2.trans (ba.of (s3.trans s4))
   have e4:=s4 _ _ e3
   generalize upd H3 z2 (.tup [])=H4 at s4 J4 b4 e4 ⊢
   refine gI (λc1=>?_) (λc1=>?_)
   ·refine ⟨_,rfl,_,rfl,t,a,ns,_,n,rfl,J4,by omega,by omega,by omega,λr5 H5 n! m? b5 J5=>⟨HG _,λp F7=>?_⟩⟩
    refine ⟨_,rfl,k [r5] p _ (lY (by simp) (λx hx=>?_) (by simp)) (b4.trans (b5.trans (ba.of (aD.new F7)))) ((J5.same (aD.new F7)).more (by omega)) (aq.of aB)⟩
    rw [Qx.mp hx]
    exact ⟨n!,m?⟩
   ·refine ⟨_,rfl,k l q _ (lY (λz=>?_) (λx hx=>by have:=hb x hx; omega) hp) b4 (J4.more (by omega)) (aq.of e4)⟩
    rw [z] at c1
    exact c1 (by decide +kernel)
end Ab
namespace Ab
def jF (ws:List (List Int)) (hs:List Int) (g:Int) (w:Nat) (t:Int):Prop:=hs[w]?=some g/\∃ l,ws[w]?=some l/\t∈l/\t≠g
def RL (ws:List (List Int)) (hs:List Int):Nat->Int->Int->Prop
 | 0,h,x=>h=x
 | k+1,h,x=>h=x∨∃ w o,jF ws hs h w o/\RL ws hs k o x
def fQ (ws:List (List Int)) (hs:List Int):Int->List (Nat×Int×Int)->Int->Prop
 | h,[],x=>h=x
 | h,s::r,x=>s.2.1=h/\jF ws hs h s.1 s.2.2/\fQ ws hs s.2.2 r x
theorem RL.refl:∀ (k:Nat) (h:Int),RL ws hs k h h
 | 0,_=>rfl
 | _+1,_=>.inl rfl
theorem RL.succ:∀ {k:Nat} {h x:Int},RL ws hs k h x->RL ws hs (k+1) h x
 | 0,_,_,e=>.inl e
 | k+1,_,_,.inl e=>.inl e
 | k+1,_,_,.inr ⟨w,o,e,r⟩=>.inr ⟨w,o,e,RL.succ r⟩
theorem RL.mono {k:Nat} {h x:Int} (r:RL ws hs k h x) (le:k<=m):RL ws hs m h x:=by
 induction le with
 | refl=>exact r
 | step _ ih=>exact ih.succ
theorem RL.snoc:∀ {k:Nat} {h g t:Int} {w:Nat},RL ws hs k h g->jF ws hs g w t->RL ws hs (k+1) h t
 | 0,_,_,_,w,e,d=>by subst e; exact .inr ⟨w,_,d,rfl⟩
 | k+1,_,_,_,w,.inl e,d=>by subst e; exact .inr ⟨w,_,d,RL.refl _ _⟩
 | k+1,_,_,_,_,.inr ⟨w',o,e,r⟩,d=>.inr ⟨w',o,e,RL.snoc r d⟩
theorem RL.closed {S:Int->Prop} (hc:∀ g w t,S g->jF ws hs g w t->S t):∀ {k:Nat} {h x:Int},S h->RL ws hs k h x->S x
 | 0,_,_,s,e=>e ▸ s
 | _+1,_,_,s,.inl e=>e ▸ s
 | _+1,_,_,s,.inr ⟨w,o,e,r⟩=>RL.closed hc (hc _ w o s e) r
def sG (ws:List (List Int)) (hs:List Int) (n:Nat) (h v:Int):Prop:=(∃ x,RL ws hs n h x/\v=((hs.count x:Nat):Int))/\∀ k x,RL ws hs k h x->v<=((hs.count x:Nat):Int)
theorem sG.le {h v:Int} (m:sG ws hs n h v):v<=((hs.count h:Nat):Int):=m.2 0 h rfl
theorem sG.Nm {h o v u:Int} {w:Nat} (m:sG ws hs n h v) (m2:sG ws hs n o u) (e:jF ws hs h w o):v<=u:=by
 obtain ⟨x,r,rfl⟩:=m2.1
 exact m.2 (n+1) x (show RL ws hs (n+1) h x from .inr ⟨w,o,e,r⟩)
def nF (n:Int) (ws:List (List Int)) (hs lv:List Int):Prop:=lv.length=n.toNat/\∀ (h:Nat) (v:Int),lv[h]?=some v->sG ws hs n.toNat h v/\((hs.count (h:Int):Nat):Int) - v < 2
def Sq (n:Int) (ws:List (List Int)) (hs:List Int) (ss:List (Nat×Int×Int)):Prop :=
 ∃ h x,ss≠[]/\fQ ws hs h ss x/\(h::ss.map (·.2.2)).Nodup/\0<=h/\h < n/\RL ws hs n.toNat h x/\2<=((hs.count h:Nat):Int) - ((hs.count x:Nat):Int)
theorem nW:∀ (n:Nat) (l:List Int),l.Nodup->(∀ x∈l,0<=x/\x < (n:Int))->l.length<=n
 | 0,[],_,_=>Qh _
 | 0,x::_,_,h=>by have:=h x (.head _); omega
 | n+1,l,hn,h=>by
  by_cases hm:(n:Int)∈l
  ·have h1:=nW n (l.erase (n:Int)) (hn.erase _) λx hx=>by
    have h2:=(hn.mem_erase_iff).mp hx
    have h3:=h x h2.2
    have:=h2.1
    omega
   rw [List.length_erase_of_mem hm] at h1
   omega
  ·have h1:=nW n l hn λx hx=>by
    have h3:=h x hx
    have:x≠(n:Int):=λz=>hm (z ▸ hx)
    omega
   omega
end Ab
namespace L2
open PySem
theorem aD.wr {a:Addr} {u:HO} (e:aD H H') (h:H a=none):aD H (upd H' a u):=λb o q=>by
 rw [aF (λz=>by rw [z,h] at q; cases q)]
 exact e b o q
end L2
namespace Ab
open PySem L2
theorem vF {h:Int}:iF (.int h) l=true↔h∈l:=by
 show (l.any (·==h))=true↔_
 rw [Xg]
 constructor
 ·rintro ⟨x,hx,e⟩
  have:x=h:=by simpa using e
  exact this ▸ hx
 ·exact λhx=>⟨h,hx,by simp⟩
theorem eZ (h:sE ws (xF hs)=true):hs.length=ws.length/\∀ (j:Nat) (h:Int) (l:List Int),hs[j]?=some h->ws[j]?=some l->h∈l:=by
 have h':(decide ((hs.map PyData.int).length=ws.length) && ((hs.map PyData.int).zip ws).all λp=>iF p.1 p.2)=true:=h
 rw [Qd,Jc,Jv] at h'
 refine ⟨of_decide_eq_true h'.1,λj h l hj hl=>?_⟩
 refine vF.mp (h'.2 (.int h,l) (Qe (i:=j) ?_))
 rw [Je]
 exact ⟨by rw [Qi,hj]; rfl,hl⟩
theorem yZ (h1:hs.length=ws.length) (h2:∀ (j:Nat) (h:Int) (l:List Int),hs[j]?=some h->ws[j]?=some l->h∈l):sE ws (xF hs)=true:=by
 show (decide ((hs.map PyData.int).length=ws.length) && ((hs.map PyData.int).zip ws).all λp=>iF p.1 p.2)=true
 rw [Qd,decide_eq_true h1,Xx,Jv]
 rintro ⟨d,l⟩ hm
 obtain ⟨j,hj⟩:=Qv.mp hm
 rw [Je] at hj
 obtain ⟨sy,A4⟩:=hj
 have sy:(hs.map PyData.int)[j]?=some d:=sy
 have A4:ws[j]?=some l:=A4
 rw [Qi] at sy
 cases q:hs[j]? with
 | none=>rw [q] at sy; cases sy
 | some h =>
  rw [q] at sy
  obtain rfl:PyData.int h=d:=Option.some.inj sy
  exact vF.mpr (h2 j h l q A4)
theorem rM.hand {x:V} {n:Int} (g:rM K H x y n ws hs) {h:Int} (e:hs[i]?=some h):0<=h/\h < n:=by
 obtain ⟨_,_,_,hw⟩:=aZ g.2.1
 obtain ⟨hl,hd⟩:=eZ g.2.2.2
 have hi:i < ws.length:=by rw [<- hl]; exact (Qa.mp e).1
 have hm:=hd i h ws[i] e (Qb hi)
 exact (bA (hw _ (Yy hi))).2.1 h hm
theorem zC {xs:List Int} (h:(xs.map V.int)[i]?=some v):∃ a,xs[i]?=some a/\v=.int a:=by
 rw [Qi] at h
 cases q:xs[i]? with
 | none=>rw [q] at h; cases h
 | some a=>rw [q] at h; exact ⟨a,rfl,(Option.some.inj h).symm⟩
theorem iS {n:Int} (h:j < n.toNat):(bS n hs)[j]?=some ((hs.count (j:Int):Nat):Int):=by
 unfold bS
 rw [Qi,vC h]
 rfl
theorem SJ {k:Int} (h0:0<=k) (h1:k < n):xt n k=some k.toNat:=by
 unfold xt
 rw [if_pos h0,if_pos (by omega)]
def sO (E:Nat->Int->Prop) (r:List (Key×V)):Prop:=(∀ k v,bW r k=some v->∃ (w:Nat) (t:Int),k=.inl t/\v=.int (w:Nat)/\E w t)/\∀ w t,E w t->(bW r (.inl t)).isSome=true
theorem sO.nil {E:Nat->Int->Prop} (h:∀ w t,¬ E w t):sO E []:=⟨λk v e=>(by rw [aDR] at e; cases e),λw t e=>(h w t e).elim⟩
theorem sO.put {E:Nat->Int->Prop} {r:List (Key×V)} (h:sO E r) (w:Nat) (t:Int):sO (λw' t'=>E w' t'∨(w'=w/\t'=t)) (eQ r (.inl t) (.int (w:Nat))):=by
 refine ⟨λk v e=>?_,λw' t' e=>?_⟩
 ·rw [uC] at e
  by_cases hk:k=Sum.inl t
  ·rw [if_pos hk] at e
   exact ⟨w,t,hk,(Option.some.inj e).symm,.inr ⟨rfl,rfl⟩⟩
  ·rw [if_neg hk] at e
   obtain ⟨w',t',h1,h2,h3⟩:=h.1 k v e
   exact ⟨w',t',h1,h2,.inl h3⟩
 ·rw [uC]
  by_cases hk:(Sum.inl t':Key)=Sum.inl t
  ·rw [if_pos hk]; rfl
  ·rw [if_neg hk]
   rcases e with e | ⟨_,e⟩
   ·exact h.2 w' t' e
   ·exact absurd (by rw [e]) hk
theorem sO.congr {E E':Nat->Int->Prop} {r:List (Key×V)} (h:sO E r) (e:∀ w t,E w t↔E' w t):sO E' r:=⟨λk v q=>let ⟨w,t,a,b,c⟩:=h.1 k v q; ⟨w,t,a,b,(e w t).mp c⟩,λw t q=>h.2 w t ((e w t).mpr q)⟩
structure Rows (H:Hp) (rp:Addr) (qs:List Addr) (rs:List (List (Key×V))):Prop where
 lst:H rp=some (.lst (qs.map V.ref))
 len:qs.length=rs.length
 nd:qs.Nodup
 row:∀ (g:Nat) q r,qs[g]?=some q->rs[g]?=some r->H q=some (.dK r)
theorem Rows.same {rp:Addr} {qs:List Addr} {rs:List (List (Key×V))} (h:Rows H rp qs rs) (s:aD H H'):Rows H' rp qs rs:=⟨s _ _ h.lst,h.len,h.nd,λg q r a b=>s _ _ (h.row g q r a b)⟩
theorem Rows.put {rp:Addr} {qs:List Addr} {rs:List (List (Key×V))} (h:Rows H rp qs rs) {g:Nat} {q:Addr} {r r':List (Key×V)} (hq:qs[g]?=some q) (hr:rs[g]?=some r):Rows (upd H q (.dK r')) rp qs (rs.set g r'):=by
 have hg:=h.row g q r hq hr
 have nq:rp≠q:=λz=>by have:=h.lst; rw [z,hg] at this; cases this
 refine ⟨by rw [aF nq]; exact h.lst,by rw [Zk]; exact h.len,h.nd,λg2 q2 r2 h1 h2=>?_⟩
 rw [Xd] at h2
 by_cases e:g=g2
 ·subst e
  rw [if_pos rfl] at h2
  rw [hq] at h1
  cases h1
  by_cases hl:g < rs.length
  ·rw [if_pos hl] at h2; cases h2; exact aB
  ·rw [if_neg hl] at h2; cases h2
 ·rw [if_neg e] at h2
  have n2:q2≠q:=λz=>by
   subst z
   have bw:g < qs.length:=(Qa.mp hq).1
   exact e ((Ys bw h.nd).mp (hq.trans h1.symm))
  rw [aF n2]
  exact h.row g2 q2 r2 h1 h2
def Ef (E:Int->Nat->Int->Prop) (rs:List (List (Key×V))) (m:Nat):Prop:=∀ (g:Nat) r,rs[g]?=some r->sO (E g) r/\r.length<=m
def nX (K:Rb):Sp:=λvs H Q _=>∃ x y n ws hs,vs = [x,y]/\rM K H x y n ws hs/\∀ rp H' qs rs,aD H H'->H rp=none->(∀ q∈qs,H q=none)->Rows H' rp qs rs->rs.length=n.toNat->Ef (jF ws hs) rs 100->Q (.ref rp) H'
theorem jR:af ["book", "deal", "rows", "work", "giver", "able", "taker"] ["book", "deal"] (aI jZ):=.of
theorem pL (G:Fn K mg "handing" jZ ["book", "deal"] f fd) (B:Bl mg):ae P w K mg base ao 1 f fd ["book", "deal"] (nX K):=by
 refine G.fn.oK jR λbg A outer s H vs Q E hr h=>?_
 ·obtain ⟨x,y,n,ws,hs,rfl,g,k⟩:=h
  refine ⟨_,(aE (lR (i:=2) (own:=["hand"]) (fr:=[]) (bo:=[]) (bK (aI jZ) ["book", "deal", "rows", "work", "giver", "able", "taker"] rfl rfl (by decide +kernel)) rfl jR.nd rfl rfl rfl (dZ rfl B.range (aA (bM cC (pv 0) aH (λ_ _=>rfl)) aC))
    (λ_ _ _ _=>(aV (i:=0) (show (["hand"]:List Str).Nodup by decide +kernel) rfl (Or.inl rfl))) (λ_ _ _ _=>eM)
    (λ_ _ _ _=>jX))
   (aE (hV PassesOwn.never rfl (aBo .t .t rfl B.enumerate rfl B.zip (aA (pv 1) (aA (bM cC (pv 0) aH (λ_ _=>rfl)) aC))) (oW rfl (dJ (aV (i:=3) jR.nd rfl (Or.inl rfl)) (dJ (oW rfl (dJ (aV (i:=4) jR.nd rfl (Or.inl rfl)) (dJ (aV (i:=5) jR.nd rfl (Or.inl rfl)) lO))) lO)))
    (aJ (hV PassesOwn.never rfl (oX (pv 5)) (aV (i:=6) jR.nd rfl (Or.inl rfl))
     (aJ (bI (aP oJ (pv 6) (pv 4) (aU _))
      (aJ (iY (bU hr) (bM cM (pv 2) (pv 4) (λ_ _=>rfl)) (pv 6) (pv 3) rfl))
      aS)))))
   (aJ (aR (pv 2))))),?_⟩
  obtain ⟨BV,iu,gh⟩:=g.len
  obtain ⟨a,b,ys,rfl,ha,oa,p_⟩:=lG g.1
  obtain ⟨c0,rfl,Ka⟩:=cU.mp g.2.2.1
  obtain ⟨jz,hdg⟩:=eZ g.2.2.2
  obtain ⟨_,_,cz,fg⟩:=aZ g.2.1
  have wc:=bZ p_
  rw [Qd] at wc
  refine ⟨_,rfl,a,_,0,.int n,rfl,rfl,ha,rfl,n,rfl,by omega,by omega,jV (lo:=0) (n:=n.toNat) (λσ=>∃ v,σ = [v]) (λi zs H2=>∃ qs:List Addr,zs=qs.map V.ref/\qs.length=i/\aD H H2/\qs.Nodup/\∀ q∈qs,H q=none/\H2 q=some (.dK [])) ?_ ⟨none,rfl⟩ ⟨[],rfl,rfl,aD.refl H,Wk,λ_ h=>(Qt h).elim⟩ ?_ ?_ ?_⟩
  ·rw [Rf]; omega
  ·rintro i zs H2 ⟨qs,rfl,hq,_⟩
   rw [Qd]; omega
  ·rintro i zs σ H2 hi ⟨v,rfl⟩ ⟨qs,rfl,hq,s2,nd,xu⟩ hz
   refine cQ ?_
   intro p hp
   refine ⟨hz,⟨_,rfl⟩,qs++[p],by rw [Qw]; rfl,by rw [Qg,hq]; rfl,s2.trans (aD.new hp),?_,λq q_=>?_⟩
   ·rw [Xj]
    refine ⟨nd,by simp,λx hx y hy e=>?_⟩
    rw [Qx.mp hy] at e
    have:=(xu x hx).2
    rw [e,hp] at this; cases this
   ·rcases Jg.mp q_ with h | h
    ·exact ⟨(xu q h).1,(aD.new hp) _ _ (xu q h).2⟩
    ·rw [Qx.mp h]
     exact ⟨s2.free hp,aB⟩
  ·rintro zs H2 ⟨qs,rfl,hq,s2,nd,xu⟩ rp Cu
   have s3:=s2.trans (aD.new (o:=.lst (qs.map V.ref)) Cu)
   have EU:H rp=none:=s2.free Cu
   have R3:Rows (upd H2 rp (.lst (qs.map V.ref))) rp qs (List.replicate n.toNat []):=⟨aB,by rw [Jj]; exact hq,nd,λg q r h1 h2=>by
    have er:r = []:=by
     rw [Xh] at h2
     split at h2
     ·exact (Option.some.inj h2).symm
     ·cases h2
    rw [er]
    exact (aD.new Cu) _ _ (xu q (Qe h1)).2⟩
   generalize upd H2 rp (.lst (qs.map V.ref))=H3 at s3 R3 ⊢
   have h6:∀ l∈ws,l.length<=6:=λl hl=>by
    obtain ⟨_,w2,w3⟩:=bA (fg l hl)
    have:=iR (by omega) w2 w3
    omega
   refine ⟨_,rfl,_,rfl,a,_,1,.ref b,rfl,rfl,s3.ah ha,rfl,c0,b,_,_,rfl,s3.ah Ka,s3.ah oa,aAC (K:=K) (k1:=.t) (k2:=.t) (a:=c0) (b:=b) (xs:=hs.map V.int) (ys:=ys)
    (λi σ H4=>(∃ v3 v4 v5 v6,σ = [some (.ref a),some (.ref c0),some (.ref rp),v3,v4,v5,v6])/\aD H H4/\∃ rs,Rows H4 rp qs rs/\rs.length=n.toNat/\Ef (λg w t=>w < i/\jF ws hs g w t) rs (6*i))
    (by rw [Qd]; omega) ⟨⟨_,_,_,_,rfl⟩,s3,_,R3,Jj,λg r hr=>?_⟩ (λ_ σ H4 _ ⟨_,s4,_⟩=>⟨s4.ah Ka,s4.ah oa⟩) ?_ ?_⟩
   ·have er:r = []:=by
     rw [Xh] at hr
     split at hr
     ·exact (Option.some.inj hr).symm
     ·cases hr
    rw [er]
    exact ⟨sO.nil λw t h=>by omega,Jt _⟩
   ·rintro i u v p q σ H4 hu hv ⟨⟨v3,v4,v5,v6,rfl⟩,s4,rs,R4,zu,E4⟩ hp hq ff
    obtain ⟨h,hh,rfl⟩:=zC hu
    obtain ⟨dv,tf,B4⟩:=kX p_ hv
    rw [Qi] at tf
    obtain ⟨l,hl,rfl⟩:∃ l,ws[i]?=some l/\gF l=dv:=by
     cases q:ws[i]? with
     | none=>rw [q] at tf; cases tf
     | some l=>rw [q] at tf; exact ⟨l,rfl,Option.some.inj tf⟩
    obtain ⟨aw,rfl,O9⟩:=cU.mp B4
    obtain ⟨hh0,hh1⟩:=g.hand hh
    have ur:=h6 l (Qe hl)
    have aaf:i < 12:=by
     have:=(Qa.mp hh).1
     omega
    have sp:=aD.new (o:=.tup [.int h,.ref aw]) hp
    have JF:upd H4 p (.tup [.int h,.ref aw]) q=none:=by rw [aF ff]; exact hq
    have sq:=aD.new (o:=.tup [.int (i:Nat),.ref p]) JF
    have ep:upd (upd H4 p (.tup [.int h,.ref aw])) q (.tup [.int (i:Nat),.ref p]) p=some (.tup [.int h,.ref aw]):=sq _ _ aB
    have eq:upd (upd H4 p (.tup [.int h,.ref aw])) q (.tup [.int (i:Nat),.ref p]) q=some (.tup [.int (i:Nat),.ref p]):=aB
    have s5:=s4.trans (sp.trans sq)
    have R5:=R4.same (sp.trans sq)
    generalize upd (upd H4 p (.tup [.int h,.ref aw])) q (.tup [.int (i:Nat),.ref p])=H5 at ep eq s5 R5 ⊢
    refine ⟨q,_,rfl,aq.of eq,rfl,_,_,rfl,_,_,rfl,p,_,rfl,aq.of ep,rfl,_,_,rfl,_,_,rfl,rfl,rfl,?_⟩
    have uu:h.toNat < qs.length:=by rw [R5.len,zu]; omega
    obtain ⟨qh,F6⟩:∃ qh,qs[h.toNat]?=some qh:=⟨_,Qb uu⟩
    have iz:((h.toNat:Nat):Int)=h:=by omega
    refine ⟨_,rfl,aw,rfl,⟨_,s5.ah O9⟩,UM (K:=K) (a:=aw) (xs:=l.map V.int) (λj σ H6=>(∃ v6,σ = [some (.ref a),some (.ref c0),some (.ref rp),some (.int (i:Nat)),some (.int h),some (.ref aw),v6])/\aD H H6/\∃ rs,Rows H6 rp qs rs/\rs.length=n.toNat/\Ef (λg w t=>(w < i/\jF ws hs g w t)∨(w=i/\g=h/\t∈l.take j/\t≠h)) rs (6*i+j))
     ⟨⟨_,rfl⟩,s5,rs,R5,zu,λg r hr=>⟨(E4 g r hr).1.congr λw t=>⟨.inl,λz=>z.elim id λz=>by rw [Ym] at z; exact (Qt z.2.2.1).elim⟩,(E4 g r hr).2⟩⟩ (λ_ σ H6 _ ⟨_,s6,_⟩=>s6.ah O9) ?_ ?_⟩
    ·rintro j tv σ H6 ZF ⟨⟨v6,rfl⟩,s6,rs,R6,so,E6⟩
     obtain ⟨t,ht,rfl⟩:=zC ZF
     have hj:j < l.length:=(Qa.mp ht).1
     have nj:l.take (j+1)=l.take j++[t]:=by rw [Jw,ht]; rfl
     refine ⟨_,rfl,_,rfl,rfl,_,rfl,?_⟩
     refine gI (λc=>?_) (λc=>?_)
     ·have JC:t≠h:=λz=>by rw [z] at c; simp at c
      obtain ⟨r,hr⟩:∃ r,rs[h.toNat]?=some r:=⟨_,Qb (by rw [so]; omega)⟩
      have rj:qj (qs.map V.ref) h=some (.ref qh):=by
       have:=gA (xs:=qs.map V.ref) (j:=h.toNat) (v:=.ref qh) (by rw [Qi,F6]; rfl)
       rwa [iz] at this
      have ko:=R6.row _ _ _ F6 hr
      have uo:=(E6 _ _ hr).2
      have ZM:H qh=none:=(xu qh (Qe F6)).1
      refine ⟨_,rfl,_,rfl,_,rfl,rp,_,h,_,rfl,rfl,au.of R6.lst,rj,_,rfl,qh,_,rfl,qF.k (k:=.inl t) ko (by rw [Rf]; omega),?_⟩
      refine ⟨⟨_,rfl⟩,s6.wr ZM,rs.set h.toNat (eQ r (.inl t) (.int (i:Nat))),R6.put F6 hr,by rw [Zk]; exact so,λg2 r2 jy=>?_⟩
      rw [Xd] at jy
      by_cases eg:h.toNat=g2
      ·rw [if_pos eg,if_pos (by rw [so]; omega)] at jy
       cases jy
       have A?:((g2:Nat):Int)=h:=by omega
       refine ⟨((E6 _ _ hr).1.put i t).congr λw t'=>?_,Ja (gJ _ _ _) (by omega)⟩
       rw [iz,A?,nj]
       constructor
       ·rintro ((z | ⟨z1,z2,z3,z4⟩) | ⟨z1,z2⟩)
        ·exact .inl z
        ·exact .inr ⟨z1,z2,Js _ z3,z4⟩
        ·exact .inr ⟨z1,rfl,by rw [z2]; simp,by rw [z2]; exact JC⟩
       ·rintro (z | ⟨z1,z2,z3,z4⟩)
        ·exact .inl (.inl z)
        ·rcases Jg.mp z3 with z3 | z3
         ·exact .inl (.inr ⟨z1,z2,z3,z4⟩)
         ·exact .inr ⟨z1,Qx.mp z3⟩
      ·rw [if_neg eg] at jy
       refine ⟨(E6 _ _ jy).1.congr λw t'=>?_,Ja (E6 _ _ jy).2 (by omega)⟩
       have ng:¬ ((g2:Nat):Int)=h:=by omega
       constructor
       ·rintro (z | ⟨_,z2,_⟩)
        ·exact .inl z
        ·exact absurd z2 ng
       ·rintro (z | ⟨_,z2,_⟩)
        ·exact .inl z
        ·exact absurd z2 ng
     ·have JC:t=h:=by simpa using c
      refine ⟨⟨_,rfl⟩,s6,rs,R6,so,λg2 r2 jy=>⟨(E6 _ _ jy).1.congr λw t'=>?_,Ja (E6 _ _ jy).2 (by omega)⟩⟩
      rw [nj]
      constructor
      ·rintro (z | ⟨z1,z2,z3,z4⟩)
       ·exact .inl z
       ·exact .inr ⟨z1,z2,Js _ z3,z4⟩
      ·rintro (z | ⟨z1,z2,z3,z4⟩)
       ·exact .inl z
       ·rcases Jg.mp z3 with z3 | z3
        ·exact .inr ⟨z1,z2,z3,z4⟩
        ·exact absurd ((Qx.mp z3).trans JC) z4
    ·rintro σ H6 ⟨⟨v6,rfl⟩,s6,rs,R6,so,E6⟩
     refine ⟨⟨_,_,_,_,rfl⟩,s6,rs,R6,so,λg2 r2 jy=>⟨(E6 _ _ jy).1.congr λw t'=>?_,Ja (E6 _ _ jy).2 (by rw [Qd]; omega)⟩⟩
     rw [Qd,Jr]
     constructor
     ·rintro (⟨z1,z2⟩ | ⟨z1,z2,z3,z4⟩)
      ·exact ⟨by omega,z2⟩
      ·subst z1
       exact ⟨by omega,by rw [hh,z2],l,hl,z3,by rw [z2]; exact z4⟩
     ·rintro ⟨z1,z2⟩
      by_cases hw:w < i
      ·exact .inl ⟨hw,z2⟩
      ·have ew:w=i:=by omega
       subst ew
       obtain ⟨z3,l',z4,z5,z6⟩:=z2
       rw [hh] at z3
       rw [hl] at z4
       cases z4
       have ez:h=g2:=Option.some.inj z3
       exact .inr ⟨rfl,ez.symm,z5,by rw [ez]; exact z6⟩
   ·rintro σ H4 ⟨⟨v3,v4,v5,v6,rfl⟩,s4,rs,R4,zu,E4⟩
    refine ⟨_,rfl,k rp H4 qs rs s4 EU (λq hq=>(xu q hq).1) R4 zu λg r hr=>⟨(E4 g r hr).1.congr λw t=>⟨λz=>z.2,λz=>⟨?_,z⟩⟩,Ja (E4 g r hr).2 (by rw [Qd]; omega)⟩⟩
    rw [Qd]
    exact (Qa.mp z.1).1
def Tp (H H':Hp):Prop:=∀ p xs,H p=some (.tup xs)->H' p=some (.tup xs)
theorem Tp.of (s:aD H H'):Tp H H':=λ_ _ h=>s _ _ h
theorem Tp.upd {a:Addr} {u:HO} (h:∀ xs,H a≠some (.tup xs)):Tp H (upd H a u):=λp xs e=>by
 have ne:p≠a:=λz=>h xs (by rw [<- z]; exact e)
 rw [aF ne]; exact e
theorem sX {fs:List (Key×V)} {os:List Int} (h:fs.map (·.1)=os.map Sum.inl) (t:Int):(bW fs (.inl t)).isSome=decide (t∈os):=by
 rw [<- iE]
 have:(fs.any λkv=>decide (kv.1=Sum.inl t))=((fs.map (·.1)).any λk=>decide (k=Sum.inl t)):=by rw [Yi]; rfl
 rw [this,h,Yi,Xl]
 simp
structure Tree (ws:List (List Int)) (hs:List Int) (n first:Int) (H:Hp) (fs:List (Key×V)) (os:List Int):Prop where
 keys:fs.map (·.1)=os.map Sum.inl
 nd:os.Nodup
 sv:∀ o∈os,0<=o/\o < n
 head:os[0]?=some first
 v0:bW fs (.inl first)=some .br
 par:∀ (j:Nat) (t:Int),0 < j->os[j]?=some t->∃ (p:Addr) (w:Nat) (g:Int) (i:Nat),bW fs (.inl t)=some (.ref p)/\H p=some (.tup [.int (w:Nat),.int g,.int t])/\jF ws hs g w t/\i < j/\os[i]?=some g
section
variable {n first:Int} {fs:List (Key×V)} {os:List Int}
theorem Tree.tp (T:Tree ws hs n first H fs os) (e:Tp H H'):Tree ws hs n first H' fs os :=
 ⟨T.keys,T.nd,T.sv,T.head,T.v0,λj t h0 h1=>let ⟨p,w,g,i,a,b,c⟩:=T.par j t h0 h1; ⟨p,w,g,i,a,e _ _ b,c⟩⟩
theorem Tree.len (T:Tree ws hs n first H fs os):os.length<=n.toNat:=nW _ _ T.nd λx hx=>by have:=T.sv x hx; omega
theorem Tree.Fc (T:Tree ws hs n first H fs os):fs.length=os.length:=by
 have:=congrArg Wl T.keys
 rwa [Qd,Qd] at this
theorem Tree.one (h0:0<=first) (h1:first < n):Tree ws hs n first H [(.inl first,.br)] [first] :=
 ⟨rfl,by simp,λo ho=>by rw [Qx.mp ho]; exact ⟨h0,h1⟩,rfl,dP rfl,λj t h2 h3=>by
  cases j with
  | zero=>omega
  | succ j=>simp at h3⟩
theorem Tree.grow (T:Tree ws hs n first H fs os) {w:Nat} {g t:Int} (hp:H p=some (.tup [.int (w:Nat),.int g,.int t])) (e:jF ws hs g w t) (hi:os[i]?=some g) (ht:t∉os) (r0:0<=t) (r1:t < n) :
  Tree ws hs n first H (fs++[(.inl t,.ref p)]) (os++[t]):=by
 have hv:bW fs (.inl t)=none:=by
  have:=sX T.keys t
  rw [decide_eq_false ht] at this
  cases q:bW fs (.inl t) with
  | none=>rfl
  | some v=>rw [q] at this; cases this
 have bw:i < os.length:=(Qa.mp hi).1
 have val:∀ j:Key,bW (fs++[(.inl t,.ref p)]) j=if j=.inl t then some (.ref p) else bW fs j:=λj=>rG _ _ _ _ hv
 have hf:first∈os:=Qe T.head
 refine ⟨by rw [Qw,Qw,T.keys]; rfl,?_,λo ho=>?_,?_,?_,λj t' h0 h1=>?_⟩
 ·rw [Xj]
  exact ⟨T.nd,by simp,λx hx y hy z=>ht (by rw [<- Qx.mp hy,<- z]; exact hx)⟩
 ·rcases Jg.mp ho with h | h
  ·exact T.sv o h
  ·rw [Qx.mp h]; exact ⟨r0,r1⟩
 ·rw [Qn (by omega)]; exact T.head
 ·rw [val,if_neg (λz=>ht (by have:first=t:=(by simpa using z); rw [<- this]; exact hf))]
  exact T.v0
 ·by_cases hj:j < os.length
  ·rw [Qn hj] at h1
   obtain ⟨p',w',g',i',a,b,c,d,e'⟩:=T.par j t' h0 h1
   have ne:(Sum.inl t':Key)≠Sum.inl t:=λz=>ht (by have:t'=t:=(by simpa using z); rw [<- this]; exact Qe h1)
   exact ⟨p',w',g',i',by rw [val,if_neg ne]; exact a,b,c,d,by rw [Qn (by omega)]; exact e'⟩
  ·have ej:j=os.length:=by
    have:=(Qa.mp h1).1
    rw [Qg] at this
    simp at this
    omega
   subst ej
   rw [Qr (Qh _),Jy] at h1
   have et:t'=t:=by simpa using h1.symm
   subst et
   exact ⟨p,w,g,i,by rw [val,if_pos rfl],hp,e,bw,by rw [Qn bw]; exact hi⟩
theorem Tree.rl (T:Tree ws hs n first H fs os):∀ (j:Nat) (t:Int),os[j]?=some t->RL ws hs j first t:=by
 intro j
 induction j using Nat.strongRecOn with
 | ind j ih =>
  intro t ht
  by_cases h0:j=0
  ·subst h0
   rw [T.head] at ht
   exact Option.some.inj ht
  ·obtain ⟨p,w,g,i,_,_,e,hi,hg⟩:=T.par j t (by omega) ht
   exact ((ih i hi g hg).snoc e).mono (by omega)
end
def zD (ws:List (List Int)) (hs os:List Int):Prop:=∀ g∈os,∀ w t,jF ws hs g w t->t∈os
def nY (K:Rb):Sp:=λvs H Q _=>∃ rp first qs rs n ws hs,vs = [.ref rp,.int first]/\Rows H rp qs rs/\rs.length=n.toNat/\Ef (jF ws hs) rs 100/\(∀ g w t,jF ws hs g w t->0<=t/\t < n)/\n<=7/\0<=first/\first < n /\
 ∀ fd H' fs os,aD H H'->H fd=none->H' fd=some (.dK fs)->Tree ws hs n first H' fs os->zD ws hs os->Q (.ref fd) H'
theorem lI:af ["rows", "first", "found", "waiting", "giver", "taker"] ["rows", "first"] (aI lE):=.of
theorem pM (G:Fn K mg "reached" lE ["rows", "first"] f fd) (B:Bl mg):ae P w K mg base ao 1 f fd ["rows", "first"] (nY K):=by
 refine G.fn.oK lI λbg A outer s H vs Q E hr h=>?_
 ·obtain ⟨rp,first,qs,rs,n,ws,hs,rfl,R,xy,ER,jq,gh,yc,DF,k⟩:=h
  refine ⟨_,(aE (aX (i:=2) lI.nd rfl (Or.inl rfl) (aDV (pv 1) oS))
   (aE (aX (i:=3) lI.nd rfl (Or.inl rfl) (gT (aA (pv 1) aC)))
   (aE (tN PassesOwn.never (aDr (pv 3) (λ_=>rfl))
    (aE (aX (i:=4) lI.nd rfl (Or.inl rfl) (kI Rh Mb Mc U6 (pv 3) (aA aH aC)))
    (aJ (yI (hV PassesOwn.never rfl (qH (bM cM (pv 0) (pv 4) (λ_ _=>rfl))) (aV (i:=5) lI.nd rfl (Or.inl rfl))
     (aJ (bI (rA (nQ (bU hr) (pv 5) (pv 2)) (by with_unfolding_all rfl))
      (aE (iY (bU hr) (pv 2) (pv 5) (cB (aA (aQ (bU hr) (bM cM (pv 0) (pv 4) (λ_ _=>rfl)) (pv 5) (λ_ _=>rfl)) (aA (pv 4) (aA (pv 5) aC)))) rfl)
      (aJ (cK (kI Rh Ro Rp fF (pv 3) (aA (pv 5) aC)))))
      aS)))))))
   (aJ (aR (pv 2)))))),?_⟩
  intro jk yx
  refine ⟨_,rfl,.inl first,rfl,aB,?_⟩
  rw [kG]
  have s1:=aD.new (o:=.dK [(.inl first,.br)]) yx
  have e1:upd H jk (.dK [(.inl first,.br)]) jk=some (.dK [(.inl first,.br)]):=aB
  generalize upd H jk (.dK [(.inl first,.br)])=H1 at s1 e1 ⊢
  refine ⟨_,rfl,HG _,λwt F2=>?_⟩
  have BK:H wt=none:=s1.free F2
  have AN:jk≠wt:=λz=>by rw [z,F2] at e1; cases e1
  have s2:=s1.trans (aD.new (o:=.lst [.int first]) F2)
  have e2:=(aD.new (o:=.lst [.int first]) F2) _ _ e1
  have w2:upd H1 wt (.lst [.int first]) wt=some (.lst [.int first]):=aB
  generalize upd H1 wt (.lst [.int first])=H2 at s2 e2 w2 ⊢
  -- the while
  refine ⟨λm σ H3=>∃ (v4 v5:Option V) (mm:Nat) (fs:List (Key×V)) (os:List Int),σ = [some (.ref rp),some (.int first),some (.ref jk),some (.ref wt),v4,v5]/\m=n.toNat - mm/\aD H H3/\H3 jk=some (.dK fs)/\H3 wt=some (.lst ((os.drop mm).map V.int))/\Tree ws hs n first H3 fs os/\mm<=os.length /\
    ∀ (i:Nat) (g:Int),i < mm->os[i]?=some g->∀ w t,jF ws hs g w t->t∈os,
   ⟨n.toNat - 0,none,none,0,_,[first],rfl,rfl,s2,e2,w2,Tree.one yc DF,Jt _,λi g hi=>absurd hi (Nat.not_lt_zero _)⟩,?_⟩
  rintro m σ H3 ⟨v4,v5,mm,fs,os,rfl,rfl,s3,e3,w3,T3,hmm,Ob⟩
  refine ⟨_,rfl,!((os.drop mm).map V.int).isEmpty,.inl ⟨_,au.of w3,rfl⟩,?_⟩
  by_cases my:mm < os.length
  ·-- a turn
   have ff:(os.drop mm)≠[]:=by
    intro z
    have:=congrArg Wl z
    rw [Xy] at this
    simp at this
    omega
   have hb:(!((os.drop mm).map V.int).isEmpty)=true:=by
    cases q:os.drop mm with
    | nil=>exact absurd q ff
    | cons _ _=>rfl
   rw [hb]
   refine kN ?_
   have m_:os.drop mm=os[mm]::os.drop (mm+1):=Yn my
   have JT:os[mm]?=some (os[mm]):=Qb my
   generalize os[mm]=g at m_ JT
   obtain ⟨O3,hg1⟩:=T3.sv g (Qe JT)
   have WB:=T3.len
   refine ⟨λak H'=>∃ m',m' < n.toNat - mm/\∃ (v4 v5:Option V) (mm:Nat) (fs:List (Key×V)) (os:List Int),ak = [some (.ref rp),some (.int first),some (.ref jk),some (.ref wt),v4,v5]/\m'=n.toNat - mm/\aD H H'/\H' jk=some (.dK fs)/\H' wt=some (.lst ((os.drop mm).map V.int))/\Tree ws hs n first H' fs os/\mm<=os.length /\
    ∀ (i:Nat) (g:Int),i < mm->os[i]?=some g->∀ w t,jF ws hs g w t->t∈os,λak H' z=>z,?_⟩
   refine ⟨_,rfl,.inl ⟨rfl,_,au.of w3⟩,?_⟩
   have OJ:((os.drop mm).map V.int)[0]?=some (.int g):=by rw [m_]; rfl
   have OF:0 < ((os.drop mm).map V.int).length:=(Qa.mp OJ).1
   refine ⟨wt,_,0,0,.int g,rfl,rfl,w3,by decide,by decide,qI (i:=0) (by decide) OF,OJ,?_⟩
   have τ:((os.drop mm).map V.int).eraseIdx 0=(os.drop (mm+1)).map V.int:=by rw [m_]; rfl
   rw [τ]
   have s4:=s3.wr (u:=.lst ((os.drop (mm+1)).map V.int)) BK
   have e4:upd H3 wt (.lst ((os.drop (mm+1)).map V.int)) jk=some (.dK fs):=by rw [aF AN]; exact e3
   have w4:upd H3 wt (.lst ((os.drop (mm+1)).map V.int)) wt=some (.lst ((os.drop (mm+1)).map V.int)):=aB
   have T4:=T3.tp (Tp.upd (a:=wt) (u:=.lst ((os.drop (mm+1)).map V.int)) λxs z=>by rw [w3] at z; cases z)
   generalize upd H3 wt (.lst ((os.drop (mm+1)).map V.int))=H4 at s4 e4 w4 T4 ⊢
   -- the row
   have R4:=R.same s4
   have uu:g.toNat < qs.length:=by rw [R.len,xy]; omega
   have iz:((g.toNat:Nat):Int)=g:=by omega
   obtain ⟨qg,OU⟩:∃ q,qs[g.toNat]?=some q:=⟨_,Qb uu⟩
   obtain ⟨r,hr⟩:∃ r,rs[g.toNat]?=some r:=⟨_,Qb (by rw [xy]; omega)⟩
   have rj:qj (qs.map V.ref) g=some (.ref qg):=by
    have:=gA (xs:=qs.map V.ref) (j:=g.toNat) (v:=.ref qg) (by rw [Qi,OU]; rfl)
    rwa [iz] at this
   have ko:=R.row _ _ _ OU hr
   have Ax:=s4 _ _ ko
   obtain ⟨Kj,hRl⟩:=ER _ _ hr
   rw [iz] at Kj
   have H_:qg≠jk:=λz=>by rw [z,yx] at ko; cases ko
   have HZ:qg≠wt:=λz=>by rw [z,BK] at ko; cases ko
   have X':rp≠qg:=λz=>by have:=R.lst; rw [z,ko] at this; cases this
   refine ⟨_,rfl,_,rfl,rp,_,g,_,rfl,rfl,au.of R4.lst,rj,qg,r,rfl,Ax,λo nf=>?_⟩
   have z5:upd H4 qg (.bq o (.dK r)) qg=some (.bq o (.dK r)):=aB
   have b5:ba qg H (upd H4 qg (.bq o (.dK r))):=λb u nb hb=>by rw [aF nb]; exact s4 _ _ hb
   have e5:upd H4 qg (.bq o (.dK r)) jk=some (.dK fs):=by rw [aF (Ne.symm H_)]; exact e4
   have w5:upd H4 qg (.bq o (.dK r)) wt=some (.lst ((os.drop (mm+1)).map V.int)):=by rw [aF (Ne.symm HZ)]; exact w4
   have T5:=T4.tp (Tp.upd (a:=qg) (u:=.bq o (.dK r)) λxs z=>by rw [Ax] at z; cases z)
   generalize upd H4 qg (.bq o (.dK r))=H5 at z5 b5 e5 w5 T5 ⊢
   refine uH (a:=qg) (o:=o) (kvs:=r) (λj σ H6=>∃ (v5:Option V) (fs:List (Key×V)) (os:List Int),σ = [some (.ref rp),some (.int first),some (.ref jk),some (.ref wt),some (.int g),v5]/\H6 qg=some (.bq o (.dK r))/\ba qg H H6/\H6 jk=some (.dK fs)/\H6 wt=some (.lst ((os.drop (mm+1)).map V.int))/\Tree ws hs n first H6 fs os/\mm+1<=os.length/\os[mm]?=some g /\
     (∀ (i:Nat) (g:Int),i < mm->os[i]?=some g->∀ w t,jF ws hs g w t->t∈os)/\∀ (i:Nat) k v t,i < j->r[i]?=some (k,v)->k=.inl t->t∈os)
    ⟨v5,fs,os,rfl,z5,b5,e5,w5,T5,my,JT,Ob,λi k v t hi=>absurd hi (Nat.not_lt_zero _)⟩ (λj σ H6 _ ⟨_,_,_,_,h,_⟩=>h) ?_ ?_
   ·rintro j ⟨key,val⟩ σ H6 hj ⟨v5,fs,os,rfl,z6,b6,e6,w6,T6,ur,DC,FL,KN⟩
    -- the key is a hand,its value a work
    obtain ⟨aaa,ES⟩:∃ v,bW r key=some v:=by
     have:(bW r key).isSome=true:=by
      rw [<- iE,Xg]
      exact ⟨_,Qe hj,by simp⟩
     cases q:bW r key with
     | none=>rw [q] at this; cases this
     | some v=>exact ⟨v,rfl⟩
    obtain ⟨wk,t,rfl,rfl,hE⟩:=Kj.1 _ _ ES
    obtain ⟨qz,ZG⟩:=jq _ _ _ hE
    dsimp only [kV]
    have dn:∀ (Cq:List Int),t∈Cq->(∀ x∈os,x∈Cq)->∀ (i:Nat) k v t',i < j+1->r[i]?=some (k,v)->k=.inl t'->t'∈Cq:=λCq h1 h2 i k v t' hi hk he=>by
     by_cases A5:i < j
     ·exact h2 _ (KN i k v t' A5 hk he)
     ·have:i=j:=by omega
      subst this
      rw [hj] at hk
      cases hk
      have:t=t':=by simpa using he
      rw [<- this]; exact h1
    refine ⟨_,rfl,_,rfl,jk,_,rfl,kF.k (k:=.inl t) e6,_,rfl,?_⟩
    rw [sX T6.keys]
    by_cases Du:t∈os
    ·rw [decide_eq_true Du]
     refine oH ?_
     exact ⟨_,fs,os,rfl,z6,b6,e6,w6,T6,ur,DC,FL,dn os Du λ_ h=>h⟩
    ·rw [decide_eq_false Du]
     refine kN ?_
     have e!:H6 rp=some (.lst (qs.map V.ref)):=b6 _ _ X' R.lst
     refine ⟨_,rfl,_,rfl,rp,_,g,_,rfl,rfl,au.of e!,rj,_,rfl,qg,.int (wk:Nat),rfl,.inl ⟨r,.inl t,.inr ⟨o,z6⟩,rfl,ES.symm⟩,_,rfl,_,rfl,iI (show 3<=1000 by decide),λp hp=>?_⟩
     have sp:=aD.new (o:=.tup [.int (wk:Nat),.int g,.int t]) hp
     have ep:upd H6 p (.tup [.int (wk:Nat),.int g,.int t]) p=_:=aB
     have b7:ba qg H (upd H6 p (.tup [.int (wk:Nat),.int g,.int t])):=b6.trans (ba.of sp)
     have z7:=sp _ _ z6
     have e7:=sp _ _ e6
     have w7:=sp _ _ w6
     have T7:=T6.tp (Tp.of sp)
     generalize upd H6 p (.tup [.int (wk:Nat),.int g,.int t])=H7 at sp ep b7 z7 e7 w7 T7 ⊢
     have hv:bW fs (.inl t)=none:=by
      have:=sX T7.keys t
      rw [decide_eq_false Du] at this
      cases q:bW fs (.inl t) with
      | none=>rfl
      | some v=>rw [q] at this; cases this
     have T7l:=T7.len
     have T7f:=T7.Fc
     have T8:=T7.grow ep hE DC Du qz ZG
     have MT:eQ fs (.inl t) (.ref p)=fs++[(.inl t,.ref p)]:=jW _ hv
     refine ⟨_,rfl,_,rfl,jk,_,rfl,qF.k (k:=.inl t) e7 (by rw [Rf]; omega),?_⟩
     rw [MT]
     have b8:ba qg H (upd H7 jk (.dK (fs++[(.inl t,.ref p)]))):=λb u nb hb=>by
      rw [aF (λz=>by rw [z,yx] at hb; cases hb)]
      exact b7 b u nb hb
     have z8:upd H7 jk (.dK (fs++[(.inl t,.ref p)])) qg=some (.bq o (.dK r)):=by rw [aF H_]; exact z7
     have e8:upd H7 jk (.dK (fs++[(.inl t,.ref p)])) jk=_:=aB
     have w8:upd H7 jk (.dK (fs++[(.inl t,.ref p)])) wt=some (.lst ((os.drop (mm+1)).map V.int)):=by rw [aF (Ne.symm AN)]; exact w7
     have VN:=T8.tp (Tp.upd (a:=jk) (u:=.dK (fs++[(.inl t,.ref p)])) λxs z=>by rw [e7] at z; cases z)
     generalize upd H7 jk (.dK (fs++[(.inl t,.ref p)]))=H8 at b8 z8 e8 w8 VN ⊢
     refine ⟨_,rfl,.inl ⟨rfl,_,au.of w8⟩,_,rfl,wt,_,.int t,rfl,rfl,w8,by rw [Qd,Xy,Rf]; omega,?_⟩
     have ψ:(os.drop (mm+1)).map V.int++[V.int t]=((os++[t]).drop (mm+1)).map V.int:=by
      rw [List.drop_append_of_le_length ur,Qw]; rfl
     rw [ψ]
     refine ⟨_,_,os++[t],rfl,by rw [aF HZ]; exact z8,λb u nb hb=>?_,by rw [aF AN]; exact e8,aB,VN.tp (Tp.upd λxs z=>by rw [w8] at z; cases z),by rw [Qg]; omega,by rw [Qn (by omega)]; exact DC,λi g' hi CC w t' e'=>?_,dn _ (by simp) λx hx=>Js _ hx⟩
     ·rw [aF (λz=>by rw [z,BK] at hb; cases hb)]
      exact b8 b u nb hb
     ·rw [Qn (by omega)] at CC
      exact Js _ (FL i g' hi CC w t' e')
   ·rintro σ H6 ⟨v5,fs,os,rfl,z6,b6,e6,w6,T6,ur,DC,FL,KN⟩
    refine ⟨qg,o,r,z6,nf,?_⟩
    have hole:=T6.len
    have s7:aD H (upd H6 qg (.dK r)):=λb u hb=>by
     by_cases Kb:b=qg
     ·rw [Kb] at hb ⊢
      rw [aB,<- ko]; exact hb
     ·rw [aF Kb]; exact b6 b u Kb hb
    refine ⟨n.toNat - (mm+1),by omega,_,_,mm+1,fs,os,rfl,rfl,s7,by rw [aF (Ne.symm H_)]; exact e6,by rw [aF (Ne.symm HZ)]; exact w6,T6.tp (Tp.upd λxs z=>by rw [z6] at z; cases z),ur,λi g' hi CC w t e=>?_⟩
    by_cases Z_:i < mm
    ·exact FL i g' Z_ CC w t e
    ·have:i=mm:=by omega
     subst this
     rw [DC] at CC
     cases CC
     have hs:=Kj.2 w t e
     rw [<- iE,Xg] at hs
     obtain ⟨⟨k,v⟩,hk,he⟩:=hs
     obtain ⟨j,hj⟩:=Qv.mp hk
     exact KN j k v t (Qa.mp hj).1 hj (by simpa using he)
  ·have hlen:mm=os.length:=by omega
   have hb:(!((os.drop mm).map V.int).isEmpty)=false:=by rw [hlen,List.drop_length]; rfl
   rw [hb]
   refine oH ?_
   refine ⟨_,rfl,k jk H3 fs os s3 yx e3 T3 λg hg w t e=>?_⟩
   obtain ⟨i,hi⟩:=Qv.mp hg
   exact Ob i g (by have:=(Qa.mp hi).1; omega) hi w t e
structure bj (H:Hp) (ps:List Addr) (ss:List (Nat×Int×Int)):Prop where
 len:ps.length=ss.length
 at_:∀ (i:Nat) p s,ps[i]?=some p->ss[i]?=some s->H p=some (.tup [.int (s.1:Nat),.int s.2.1,.int s.2.2])
theorem bj.nil:bj H [] []:=⟨rfl,λi p s h=>by simp at h⟩
theorem bj.cons {ps:List Addr} (h:bj H ps ss) {w:Nat} {g t:Int} (hp:H p=some (.tup [.int (w:Nat),.int g,.int t])):bj H (p::ps) ((w,g,t)::ss):=by
 refine ⟨by rw [Jo,Jo,h.len],λi p' s h1 h2=>?_⟩
 cases i with
 | zero =>
  have e1:p=p':=by simpa using h1
  have e2:(w,g,t)=s:=by simpa using h2
  subst e1 e2
  exact hp
 | succ i=>exact h.at_ i p' s (by simpa using h1) (by simpa using h2)
theorem bj.tp {ps:List Addr} (h:bj H ps ss) (e:Tp H H'):bj H' ps ss:=⟨h.len,λi p s a b=>e _ _ (h.at_ i p s a b)⟩
def sY (K:Rb):Sp:=λvs H Q _=>∃ ji last fs os first n ws hs jl,vs = [.ref ji,.int last]/\H ji=some (.dK fs)/\Tree ws hs n first H fs os/\n<=7/\os[jl]?=some last /\
 ∀ p H' ps ss,aD H H'->H p=none->H' p=some (.lst (ps.map V.ref))->bj H' ps ss->fQ ws hs first ss last->(first::ss.map (·.2.2)).Nodup->(∀ s∈ss,s.2.2∈os)->(0 < jl->ss≠[])->Q (.ref p) H'
theorem sZ:af ["found", "last", "some", "step"] ["found", "last"] (aI rJ):=.of
theorem vG (G:Fn K mg "way_to" rJ ["found", "last"] f fd) (B:Bl mg):ae P w K mg base ao 1 f fd ["found", "last"] (sY K):=by
 refine G.fn.oK sZ λbg A outer s H vs Q E hr h=>?_
 ·obtain ⟨ji,last,fs,os,first,n,ws,hs,jl,rfl,Gb,T,gh,qf,k⟩:=h
  refine ⟨_,(aE (aX (i:=2) sZ.nd rfl (Or.inl rfl) (gT aC))
   (aE (aX (i:=3) sZ.nd rfl (Or.inl rfl) (aQ (bU hr) (pv 0) (pv 1) (λ_ _=>rfl)))
   (aE (tN PassesOwn.never (rA (aE1 (pv 3)))
    (aE (cK (kI Rh Ro Rp fF (pv 2) (aA (pv 3) aC)))
    (aJ (aX (i:=3) sZ.nd rfl (Or.inl rfl) (aQ (bU hr) (pv 0) (bM cC (pv 3) aH (λ_ _=>rfl)) (λ_ _=>rfl))))))
   (aJ (aR (aFp (pv 2) (pR lP aH))))))),?_⟩
  have Tl:=T.len
  have MY:n.toNat < sizeLine:=by rw [Rf]; omega
  refine ⟨iI (show 0<=1000 by decide),λsm OQ=>?_⟩
  have s1:=aD.new (o:=.lst []) OQ
  have e1:upd H sm (.lst []) sm=some (.lst []):=aB
  generalize upd H sm (.lst [])=H1 at s1 e1 ⊢
  -- what stands at a found hand
  have vals:∀ (j:Nat) (t:Int),os[j]?=some t->∃ v,bW fs (.inl t)=some v/\((j=0/\v=.br)∨∃ p w g i,0 < j/\v=.ref p/\H p=some (.tup [.int (w:Nat),.int g,.int t])/\jF ws hs g w t/\i < j/\os[i]?=some g):=λj t ht=>by
   by_cases hj:j=0
   ·subst hj
    rw [T.head] at ht
    cases ht
    exact ⟨_,T.v0,.inl ⟨rfl,rfl⟩⟩
   ·obtain ⟨p,w,g,i,a,b,c,d,e⟩:=T.par j t (by omega) ht
    exact ⟨_,a,.inr ⟨p,w,g,i,by omega,rfl,b,c,d,e⟩⟩
  obtain ⟨v0,OO,_⟩:=vals jl last qf
  refine ⟨_,rfl,_,rfl,ji,v0,rfl,.inl ⟨fs,.inl last,.inl (s1 _ _ Gb),rfl,OO.symm⟩,?_⟩
  refine ⟨λm σ H2=>∃ (j:Nat) (t:Int) (v:V) (mf:List Addr) (ss:List (Nat×Int×Int)),m=j/\σ = [some (.ref ji),some (.int last),some (.ref sm),some v]/\os[j]?=some t/\bW fs (.inl t)=some v/\aD H H2/\H2 sm=some (.lst (mf.map V.ref))/\bj H2 mf.reverse ss/\fQ ws hs t ss last/\(t::ss.map (·.2.2)).Nodup /\
    (∀ x∈ss.map (·.2.2),∃ i:Nat,j < i/\os[i]?=some x)/\mf.length+j<=jl/\(j < jl->ss≠[]),
   ⟨jl,jl,last,v0,[],[],rfl,rfl,qf,OO,s1,e1,bj.nil,rfl,by simp,λx h=>by simp at h,by simp,λh=>by omega⟩,?_⟩
  rintro j σ H2 ⟨_,t,v,mf,ss,rfl,rfl,hj,hv,s2,e2,S2,P2,N2,I2,L2',L3⟩
  have Z8:jl < os.length:=(Qa.mp qf).1
  obtain ⟨v',F3,cs⟩:=vals j t hj
  rw [hv] at F3
  cases F3
  rcases cs with ⟨rfl,rfl⟩ | ⟨p,w,g,i,O2,rfl,hp,hE,A5,hg⟩
  ·refine ⟨_,rfl,_,rfl,?_⟩
   refine oH ?_
   rw [T.head] at hj
   cases hj
   refine ⟨_,rfl,_,rfl,rfl,sm,_,rfl,au.of e2,λp hp=>?_⟩
   have s3:=aD.new (o:=.lst (mf.map V.ref).reverse) hp
   refine k p _ mf.reverse ss (s2.trans s3) (s2.free hp) (by rw [aB,Yz]) (S2.tp (Tp.of s3)) P2 N2 (λx hx=>?_) L3
   obtain ⟨i,_,hi⟩:=I2 _ (Xu.mpr ⟨x,hx,rfl⟩)
   exact Qe hi
  ·refine ⟨_,rfl,_,rfl,?_⟩
   refine kN ?_
   obtain ⟨vg,OM,_⟩:=vals i g hg
   refine ⟨λak H'=>∃ m',m' < j/\∃ (j:Nat) (t:Int) (v:V) (mf:List Addr) (ss:List (Nat×Int×Int)),m'=j/\ak = [some (.ref ji),some (.int last),some (.ref sm),some v]/\os[j]?=some t/\bW fs (.inl t)=some v/\aD H H'/\H' sm=some (.lst (mf.map V.ref))/\bj H' mf.reverse ss/\fQ ws hs t ss last/\(t::ss.map (·.2.2)).Nodup /\
    (∀ x∈ss.map (·.2.2),∃ i:Nat,j < i/\os[i]?=some x)/\mf.length+j<=jl/\(j < jl->ss≠[]),λak H' z=>z,?_⟩
   have hsz:(mf.map V.ref).length < sizeLine:=by
    rw [Qd]
    exact Xp (Ja (Ja (Xo _ _) L2') (Ja (Jh Z8) Tl)) MY
   refine ⟨_,rfl,.inl ⟨rfl,_,au.of e2⟩,_,rfl,sm,_,.ref p,rfl,rfl,e2,hsz,?_⟩
   have s3:aD H (upd H2 sm (.lst (mf.map V.ref++[.ref p]))):=s2.wr OQ
   have e3:upd H2 sm (.lst (mf.map V.ref++[.ref p])) sm=_:=aB
   have S3:=S2.tp (Tp.upd (a:=sm) (u:=.lst (mf.map V.ref++[.ref p])) λxs z=>by rw [e2] at z; cases z)
   generalize upd H2 sm (.lst (mf.map V.ref++[.ref p]))=H3 at s3 e3 S3 ⊢
   have zq:=s3 _ _ hp
   refine ⟨_,rfl,_,rfl,p,_,1,.int g,rfl,rfl,aq.of zq,rfl,ji,vg,rfl,.inl ⟨fs,.inl g,.inl (s3 _ _ Gb),rfl,OM.symm⟩,?_⟩
   refine ⟨i,A5,i,g,vg,mf++[p],(w,g,t)::ss,rfl,rfl,hg,OM,s3,by rw [Qw]; exact e3,?_,⟨rfl,hE,P2⟩,?_,?_,?_,λ_=>by simp⟩
   ·rw [List.reverse_append]
    exact S3.cons zq
   ·show (g::t::ss.map (·.2.2)).Nodup
    rw [Jk]
    refine ⟨λhm=>?_,N2⟩
    have inj:∀ i',i < i'->os[i']?=some g->False:=λi' h1 h2=>by
     have:=(Ys (Qa.mp hg).1 T.nd).mp (hg.trans h2.symm)
     omega
    rcases Ql.mp hm with e | hm
    ·exact inj j A5 (by rw [e]; exact hj)
    ·obtain ⟨i',h1,h2⟩:=I2 g hm
     exact inj i' (by omega) h2
   ·intro x hx
    rcases Ql.mp (show x∈t::ss.map (·.2.2) from hx) with rfl | hx
    ·exact ⟨j,A5,hj⟩
    ·obtain ⟨i',h1,h2⟩:=I2 x hx
     exact ⟨i',by omega,h2⟩
   ·rw [Qg]
    show mf.length+1+i<=jl
    omega
def rP:Str:=("steps_to_least" : Str) ++ ".<locals>." ++ "<lambda>"
theorem nZ {ai:List Int} {n g t:Int} {w:Nat} (hl:hs.length=ws.length):jF (ws++[ai]) (hs++[n]) g w t↔jF ws hs g w t∨(w=hs.length/\g=n/\t∈ai/\t≠n):=by
 unfold jF
 rcases Nat.lt_trichotomy w hs.length with h | h | h
 ·rw [Qn h,Qn (by omega)]
  exact ⟨.inl,λz=>z.elim id λz=>by omega⟩
 ·subst h
  rw [Qr (Qh _),Jy,hl,Qr (Qh _),Jy,Ju (by omega:hs.length<=ws.length)]
  constructor
  ·rintro ⟨e,l,e2,h1,h2⟩
   have e:n=g:=by simpa using e
   have e2:ai=l:=by simpa using e2
   subst e e2
   exact .inr ⟨rfl,rfl,h1,h2⟩
  ·rintro (⟨e,_⟩ | ⟨_,rfl,h1,h2⟩)
   ·cases e
   ·exact ⟨rfl,ai,rfl,h1,h2⟩
 ·rw [Ju (by rw [Qg]; show hs.length+1<=w; omega),Ju (by omega:hs.length<=w)]
  constructor
  ·rintro ⟨e,_⟩; cases e
  ·rintro (⟨e,_⟩ | ⟨e,_⟩)
   ·cases e
   ·omega
def zF (K:Rb) (Pt:Addr):Sp:=λvs H Q _=>∃ (x:V) (dp ap mp:Addr) (n:Int) (ws:List (List Int)) (hs ai ms:List Int),vs = [x,.ref dp,.ref ap,.ref mp]/\rM K H x (.ref dp) n ws hs/\aq K H ap (ai.map V.int)/\cA n (gF ai)=true/\aq K H mp (ms.map V.int)/\ms.length=n.toNat/\H Pt=some (.tab rP) /\
 ∀ p H' ps ss os last,aD H H'->H p=none->H' p=some (.lst (ps.map V.ref))->bj H' ps ss->fQ (ws++[ai]) (hs++[n]) n ss last->(n::ss.map (·.2.2)).Nodup->ss≠[]->zD (ws++[ai]) (hs++[n]) os->n∈os ->
  (∀ o∈os,o≠n->0<=o/\o < n/\ms.getD last.toNat 0<=ms.getD o.toNat 0)->last∈os->last≠n->(∀ s∈ss,s.2.2∈os)->Q (.ref p) H'
theorem tD:af ["book", "deal", "able", "measures", "nobody", "found", "last"] ["book", "deal", "able", "measures"] (aI lF):=.of
theorem aEi (G:Fn K mg "steps_to_least" lF ["book", "deal", "able", "measures"] f fd) (hc:fd.code=.ref c) (Z:Lm K mg base c Pt) (B:Bl mg) (GH:Fn K mg "handing" jZ ["book", "deal"] CO CV) (GR:Fn K mg "reached" lE ["rows", "first"] fR dR) (GW:Fn K mg "way_to" rJ ["found", "last"] CK CS):ae P w K mg base ao 2 f fd ["book", "deal", "able", "measures"] (zF K Pt):=by
 have OH:ae P w K mg base ao 1 CO CV ["book", "deal"] (nX K):=pL GH B
 have OR:ae P w K mg base ao 1 fR dR ["rows", "first"] (nY K):=pM GR B
 have OW:ae P w K mg base ao 1 CK CS ["found", "last"] (sY K):=vG GW B
 refine G.fn.Oe hc tD (λvs H Q E h=>?_) (λA outer s H vs Q E hr h=>?_)
 ·obtain ⟨x,dp,ap,mp,n,ws,hs,ai,ms,rfl,_⟩:=h
  rfl
 ·obtain ⟨x,dp,ap,mp,n,ws,hs,ai,ms,rfl,g,rn,mj,zr,hml,hT,k⟩:=h
  have r1:aj 1 _:=hr
  refine ⟨_,(aE (aX (i:=4) tD.nd rfl (Or.inr rfl) (bM cC (pv 0) aH (λ_ _=>rfl)))
   (aE (aX (i:=5) tD.nd rfl (Or.inl rfl) (aW GR OR r1 rfl (aA (aY iB (aW GH OH r1 rfl (aA (pv 0) (aA (pv 1) aC)))
     (gT (aA (VM (own:=["hand"]) (fr:=[1]) (bo:=["deal"]) (bK (aI lF) ["book", "deal", "able", "measures", "nobody", "found", "last"] rfl rfl (by decide +kernel)) rfl (oX (pv 2))
      (λ_ _ _ _=>aV (i:=0) (show (["hand", "deal"]:List Str).Nodup by decide +kernel) rfl (Or.inl rfl)) (λ_ _ _ _=>eM) (λ_ _ _ _=>pv 0) (λ_ _ _ _=>aL (kR (K:=K) rfl) rfl B.len eP (aA (pv 1) aC))) aC)))
     (aA (pv 4) aC))))
   (aE (aX (i:=6) tD.nd rfl (Or.inl rfl) (xA 3 rfl r1 rfl B.min Z rfl (q:=rP) rfl
     (mY (own:=["hand"]) (fr:=[4]) (bo:=["nobody"]) (bK (aI lF) ["book", "deal", "able", "measures", "nobody", "found", "last"] rfl rfl (by decide +kernel)) rfl (pv 5)
      (λ_ _ _ _=>aV (i:=0) (show (["hand", "nobody"]:List Str).Nodup by decide +kernel) rfl (Or.inl rfl)) (λ_ _ _ _=>xZ (aP oJ (pv 0) (pv 1) (aU _))) (λ_ _ _ _=>pv 0)) rfl rfl))
   (aJ (aR (aW GW OW r1 rfl (aA (pv 5) (aA (pv 6) aC)))))))),?_⟩
  obtain ⟨BV,iu,gh⟩:=g.len
  obtain ⟨dp',B?,M9⟩:=cU.mp g.2.2.1
  cases B?
  obtain ⟨a,b,ys,rfl,ha,oa,p_⟩:=lG g.1
  obtain ⟨_,_,cz,fg⟩:=aZ g.2.1
  obtain ⟨jz,ox⟩:=eZ g.2.2.2
  obtain ⟨Fu,ql,Ft⟩:=bA mj
  have aai:ai.length<=6:=by have:=iR (by omega) ql Ft; omega
  have jq:∀ g w t,jF (ws++[ai]) (hs++[n]) g w t->0<=t/\t < n+1:=λg w t e=>by
   rcases (nZ jz).mp e with ⟨_,l,h1,h2,_⟩ | ⟨_,_,h2,_⟩
   ·have:=(bA (fg l (Qe h1))).2.1 t h2; omega
   ·have:=ql t h2; omega
  refine ⟨_,rfl,a,_,0,.int n,rfl,rfl,ha,rfl,?_⟩
  refine ⟨_,rfl,_,rfl,.ref a,.ref dp,n,ws,hs,rfl,g,λrp H2 qs rs s2 Cu xu R2 xy ER=>?_⟩
  refine ⟨_,rfl,ap,rfl,⟨_,s2.ah rn⟩,aCY (K:=K) (a:=ap) (xs:=ai.map V.int) (λσ=>∃ v,σ = [v,some (.ref dp)]) (λi zs H3=>H3=H2/\zs.length<=i/\sO (λw t=>w=hs.length/\t∈ai.take i) zs) (iI (by rw [Qd]; omega)) ⟨_,rfl⟩ ⟨rfl,Qh _,sO.nil λw t z=>by simp at z⟩
   (λi zs H3 z=>z.2.1) (λi zs H3 z=>by rw [z.1]; exact s2.ah rn) ?_ ?_⟩
  ·rintro i zs σ v H3 hv ⟨v0,rfl⟩ ⟨rfl,hz,hE⟩ hsz
   obtain ⟨t,ht,rfl⟩:=zC hv
   refine cQ ?_
   refine ⟨_,rfl,_,rfl,dp,_,rfl,.inr (s2.ah M9),.inl t,rfl,hsz,⟨_,rfl⟩,rfl,Ja (gJ _ _ _) (by omega),?_⟩
   rw [Qd]
   refine (hE.put hs.length t).congr λw t'=>?_
   rw [Jw,ht]
   constructor
   ·rintro (⟨h1,h2⟩ | ⟨h1,h2⟩)
    ·exact ⟨h1,Js _ h2⟩
    ·exact ⟨h1,by rw [h2]; simp⟩
   ·rintro ⟨h1,h2⟩
    rcases Jg.mp h2 with h | h
    ·exact .inl ⟨h1,h⟩
    ·exact .inr ⟨h1,by simpa using h⟩
  ·rintro zs H3 ⟨rfl,hz,hE⟩ dq JY
   have aac:H3 rp=some (.lst (qs.map V.ref)):=R2.lst
   have sd:=aD.new (o:=.dK zs) JY
   have aah:H dq=none:=s2.free JY
   have ed:upd H3 dq (.dK zs) dq=some (.dK zs):=aB
   have Rd:=R2.same sd
   have s3:=s2.trans sd
   generalize upd H3 dq (.dK zs)=H4 at sd ed Rd s3 ⊢
   refine ⟨HG _,λlq Z0=>?_⟩
   have sl:=aD.new (o:=.lst [.ref dq]) Z0
   have el:upd H4 lq (.lst [.ref dq]) lq=some (.lst [.ref dq]):=aB
   have s4:=s3.trans sl
   have Rl:=Rd.same sl
   have Q0:=sl _ _ ed
   generalize upd H4 lq (.lst [.ref dq])=H5 at sl el s4 Rl Q0 ⊢
   have hqn:qs.length=n.toNat:=by rw [R2.len,xy]
   refine ⟨rp,lq,_,_,rfl,rfl,Rl.lst,el,by rw [Qd,Rf]; show _+1<=_; omega,λrq ZJ=>?_⟩
   have sr:=aD.new (o:=.lst (qs.map V.ref++[.ref dq])) ZJ
   have s5:=s4.trans sr
   have er:upd H5 rq (.lst (qs.map V.ref++[.ref dq])) rq=some (.lst ((qs++[dq]).map V.ref)):=by rw [aB,Qw]; rfl
   have QZ:=sr _ _ Q0
   have Rr:=Rl.same sr
   generalize upd H5 rq (.lst (qs.map V.ref++[.ref dq]))=H6 at sr s5 er QZ Rr ⊢
   have R6:Rows H6 rq (qs++[dq]) (rs++[zs]):=by
    refine ⟨er,by rw [Qg,Qg,R2.len]; rfl,?_,λg q r h1 h2=>?_⟩
    ·rw [Xj]
     refine ⟨R2.nd,by simp,λx hx y hy e=>?_⟩
     rw [Qx.mp hy] at e
     obtain ⟨i,hi⟩:=Qv.mp hx
     have JP:i < rs.length:=by rw [<- R2.len]; exact (Qa.mp hi).1
     have:=R2.row i x _ hi (Qb JP)
     rw [e,JY] at this; cases this
    ·by_cases hg:g < qs.length
     ·rw [Qn hg] at h1
      rw [Qn (by rw [<- R2.len]; exact hg)] at h2
      exact Rr.row g q r h1 h2
     ·have eg:g=qs.length:=by
       have:=(Qa.mp h1).1
       rw [Qg] at this
       simp at this
       omega
      subst eg
      rw [Qr (Qh _),Jy] at h1
      rw [R2.len,Qr (Qh _),Jy] at h2
      have e1:dq=q:=by simpa using h1
      have e2:zs=r:=by simpa using h2
      subst e1 e2
      exact QZ
   have E6:Ef (jF (ws++[ai]) (hs++[n])) (rs++[zs]) 100:=by
    intro g r DB
    by_cases hg:g < rs.length
    ·rw [Qn hg] at DB
     obtain ⟨e1,e2⟩:=ER g r DB
     refine ⟨e1.congr λw t=>?_,e2⟩
     rw [nZ jz]
     exact ⟨.inl,λz=>z.elim id λz=>by omega⟩
    ·have eg:g=rs.length:=by
      have:=(Qa.mp DB).1
      rw [Qg] at this
      simp at this
      omega
     subst eg
     rw [Qr (Qh _),Jy] at DB
     have e2:zs=r:=by simpa using DB
     subst e2
     refine ⟨hE.congr λw t=>?_,by rw [Qd] at hz; omega⟩
     rw [nZ jz,Qd,Jr]
     constructor
     ·rintro ⟨h1,h2⟩
      have:=ql t h2
      exact .inr ⟨h1,by omega,h2,by omega⟩
     ·rintro (⟨h1,_⟩ | ⟨h1,_,h2,_⟩)
      ·have h3:hs[w]?=some ((rs.length:Nat):Int):=h1
       have:=g.hand h3
       omega
      ·exact ⟨h1,h2⟩
   refine ⟨_,rfl,rq,n,qs++[dq],rs++[zs],n+1,ws++[ai],hs++[n],rfl,R6,by rw [Qg,xy]; show _+1=_; omega,E6,jq,by omega,by omega,by omega,λji H7 fs os s7 Gb e7 T7 C7=>?_⟩
   have XU:=s5.trans s7
   have T7l:=T7.len
   have DE:=T7.Fc
   have yu:n∈os:=Qe T7.head
   refine ⟨_,rfl,ji,fs,rfl,e7,λo=>nR (a:=ji) (o:=o) (kvs:=fs) (λσ=>∃ v,σ = [v,some (.int n)]) (λi zs H8=>H8=upd H7 ji (.bq o (.dK fs))/\zs=((os.take i).filter λo=>decide (o≠n)).map V.int) (iI (by omega)) ⟨_,rfl⟩ ⟨rfl,rfl⟩ (λi zs H8 z=>?_) (λi zs H8 z=>by rw [z.1]; exact aB) ?_ ?_⟩
   ·rw [z.2,Qd]
    exact Ja (Zd _ _) (by rw [Ji]; omega)
   ·rintro i WE σ p H8 hp ⟨v,rfl⟩ ⟨rfl,rfl⟩ hsz
    obtain ⟨ov,JH,JG⟩:∃ ov,os[i]?=some ov/\p.1=.inl ov:=by
     have e:=congrArg (λl=>l[i]?) T7.keys
     simp only [Qi] at e
     rw [hp] at e
     cases q:os[i]? with
     | none=>rw [q] at e; cases e
     | some ov=>rw [q] at e; exact ⟨ov,rfl,Option.some.inj e⟩
    have nj:os.take (i+1)=os.take i++[ov]:=by rw [Jw,JH]; rfl
    rw [JG]
    refine ⟨_,rfl,_,rfl,rfl,_,rfl,?_⟩
    refine gI (λc=>?_) (λc=>?_)
    ·have ff:ov≠n:=λz=>by rw [z] at c; simp [kV] at c
     refine ⟨_,rfl,hsz,⟨_,rfl⟩,rfl,?_⟩
     rw [nj,Yj,Qw]
     congr 1
     simp [ff,kV]
    ·have ff:ov=n:=by simpa [kV] using c
     refine ⟨⟨_,rfl⟩,rfl,?_⟩
     rw [nj,Yj,ff]
     simp
   ·rintro WE H8 ⟨rfl,rfl⟩ lp fv
    rw [DE,Jr] at *
    have Dh:ji≠lp:=λz=>by rw [<- z,aB] at fv; cases fv
    have M3:H7 lp=none:=by rw [aF (Ne.symm Dh)] at fv; exact fv
    have s8:aD H7 (upd (upd (upd H7 ji (.bq o (.dK fs))) lp (.lst ((os.filter λo=>decide (o≠n)).map V.int))) ji (.dK fs)):=λb u hb=>by
     by_cases yd:b=ji
     ·rw [yd] at hb ⊢
      rw [aB,<- e7]; exact hb
     ·rw [aF yd,aF (λz=>by rw [z,M3] at hb; cases hb),aF yd]
      exact hb
    have l8:(upd (upd (upd H7 ji (.bq o (.dK fs))) lp (.lst ((os.filter λo=>decide (o≠n)).map V.int))) ji (.dK fs)) lp=some (.lst ((os.filter λo=>decide (o≠n)).map V.int)):=by
     rw [aF (Ne.symm Dh),aB]
    generalize upd (upd (upd H7 ji (.bq o (.dK fs))) lp (.lst ((os.filter λo=>decide (o≠n)).map V.int))) ji (.dK fs)=H8 at s8 l8 ⊢
    have HK:=XU.trans s8
    have BO:∀ o∈os,o≠n->0<=o/\o < n:=λo ho ff=>by
     have:=T7.sv o ho
     omega
    obtain ⟨t0,qz⟩:∃ t,t∈ai:=List.exists_mem_of_ne_nil _ Fu
    have aab:=ql t0 qz
    have MR:t0∈os:=C7 n yu hs.length t0 ((nZ jz).mpr (.inr ⟨rfl,rfl,qz,by omega⟩))
    refine ⟨os.filter λo=>decide (o≠n),λo=>ms.getD o.toNat 0,.ref mp,⟨lp,rfl,.inl (au.of l8)⟩,Wc (a:=t0) (Xk.mpr ⟨MR,decide_eq_true (by omega)⟩),HK _ _ hT,rfl,λo ho=>?_,λj m H9 s9 hj mw _=>?_⟩
    ·obtain ⟨ZS,xx⟩:=Xk.mp ho
     obtain ⟨o0,o1⟩:=BO o ZS (of_decide_eq_true xx)
     refine ⟨o0,by omega,mp,_,rfl,.inl (HK.ah zr),?_⟩
     rw [Qi,Qb (by omega)]
     show some (V.int _)=some (V.int (ms.getD o.toNat 0))
     rw [Xm,Qb (by omega)]
     rfl
    ·obtain ⟨qd,sx⟩:=Xk.mp (Qe hj)
     have A1:m≠n:=of_decide_eq_true sx
     obtain ⟨jl,qf⟩:=Qv.mp qd
     have N0:=HK.trans s9
     have NY:=s8.trans s9
     refine ⟨_,rfl,_,rfl,ji,m,fs,os,n,n+1,ws++[ai],hs++[n],jl,rfl,NY _ _ e7,T7.tp (Tp.of NY),by omega,qf,λp V5 ps ss C_ hp Dw Em P10 N10 MN MI=>?_⟩
     refine k p V5 ps ss os m (N0.trans C_) (N0.free hp) Dw Em P10 N10 (MI ?_) C7 yu (λo ho ff=>⟨(BO o ho ff).1,(BO o ho ff).2,mw o (Xk.mpr ⟨ho,decide_eq_true ff⟩)⟩) qd A1 MN
     rcases Yk jl with z | z
     ·rw [z,T7.head] at qf
      exact absurd (Option.some.inj qf).symm A1
     ·exact z
def qR:Str:=("levels_or_way" : Str) ++ ".<locals>." ++ "<lambda>"
theorem lJ {n:Int} {h:Int} (h0:0<=h) (h1:h < n):qj ((bS n hs).map V.int) h=some (.int ((hs.count h:Nat):Int)):=by
 have bw:h.toNat < n.toNat:=by omega
 have iz:((h.toNat:Nat):Int)=h:=by omega
 have h1:((bS n hs).map V.int)[h.toNat]?=some (.int ((hs.count h:Nat):Int)):=by rw [Qi,iS bw,iz]; rfl
 have h2:=gA h1
 rwa [iz] at h2
def aIE (n:Int) (ws:List (List Int)) (hs:List Int) (H H':Hp) (p:Addr):Prop :=
 (∃ q lv,H' p=some (.tup [.str "levels",.ref q])/\H' q=some (.tup (lv.map V.int))/\nF n ws hs lv) ∨
 ∃ q ps ss,H' p=some (.tup [.str "way",.ref q])/\H q=none/\H' q=some (.lst (ps.map V.ref))/\bj H' ps ss/\Sq n ws hs ss
section
variable {dK:FuncData}
def K7 (K:Rb) (Pt:Addr):Sp:=λvs H Q _=>∃ x y n ws hs,vs = [x,y]/\rM K H x y n ws hs/\H Pt=some (.tab qR)/\∀ p H',aD H H'->aIE n ws hs H H' p->Q (.ref p) H'
theorem vH:af ["book", "deal", "many", "rows", "levels", "hand", "found", "last"] ["book", "deal"] (aI GO):=.of
theorem aHe (G:Fn K mg "levels_or_way" GO ["book", "deal"] f fd) (hc:fd.code=.ref c) (Z:Lm K mg base c Pt) (B:Bl mg) (R:Pr K mg fW fH fK fB uz fD uy fL dW dH dK dB u4 dD u3 dL) (GH:Fn K mg "handing" jZ ["book", "deal"] CO CV) (GR:Fn K mg "reached" lE ["rows", "first"] fR dR) (GW:Fn K mg "way_to" rJ ["found", "last"] CK CS):ae P w K mg base ao 8 f fd ["book", "deal"] (K7 K Pt):=by
 have OL:ae P w K mg base ao 7 fL dL ["book", "deal"] (T9 K):=aEd B R
 have OH:ae P w K mg base ao 1 CO CV ["book", "deal"] (nX K):=pL GH B
 have OR:ae P w K mg base ao 1 fR dR ["rows", "first"] (nY K):=pM GR B
 have OW:ae P w K mg base ao 1 CK CS ["found", "last"] (sY K):=vG GW B
 refine G.fn.Oe hc vH (λvs H Q E h=>?_) (λA outer s H vs Q E hr h=>?_)
 ·obtain ⟨x,y,n,ws,hs,rfl,_⟩:=h
  rfl
 ·obtain ⟨x,y,n,ws,hs,rfl,g,hT,k⟩:=h
  have r1:aj 1 _:=hr.mono (by decide)
  refine ⟨_,(aE (aX (i:=2) vH.nd rfl (Or.inr rfl) (aW R.L OL hr rfl (aA (pv 0) (aA (pv 1) aC))))
   (aE (aX (i:=3) vH.nd rfl (Or.inl rfl) (aW GH OH r1 rfl (aA (pv 0) (aA (pv 1) aC))))
   (aE (aX (i:=4) vH.nd rfl (Or.inl rfl) (gT aC))
   (aE (hV PassesOwn.never rfl (dZ rfl B.range (aA (bM cC (pv 0) aH (λ_ _=>rfl)) aC)) (aV (i:=5) vH.nd rfl (Or.inl rfl))
    (aE (aX (i:=6) vH.nd rfl (Or.inl rfl) (aW GR OR r1 rfl (aA (pv 3) (aA (pv 5) aC))))
    (aE (aX (i:=7) vH.nd rfl (Or.inl rfl) (xA 2 rfl r1 rfl B.min Z rfl (q:=qR) rfl (pv 6) rfl rfl))
    (aE (bI (aP G7 (aY fP (bM cC (pv 2) (pv 5) (λ_ _=>rfl)) (bM cC (pv 2) (pv 7) (λ_ _=>rfl))) aH (aU _))
     (aJ (aR (cB (aA aK (aA (aW GW OW r1 rfl (aA (pv 6) (aA (pv 7) aC))) aC)))))
     aS)
    (aJ (cK (kI Rh Ro Rp fF (pv 4) (aA (bM cC (pv 2) (pv 7) (λ_ _=>rfl)) aC))))))))
   (aJ (aR (cB (aA aK (aA (cR iW rfl B.tuple gE (aA (pv 4) aC)) aC))))))))),?_⟩
  obtain ⟨BV,iu,gh⟩:=g.len
  obtain ⟨a,b,ys,ex,ha,oa,p_⟩:=lG g.1
  obtain ⟨_,_,cz,fg⟩:=aZ g.2.1
  have jq:∀ g w t,jF ws hs g w t->0<=t/\t < n:=λg w t e=>by
   obtain ⟨_,l,h1,h2,_⟩:=e
   exact (bA (fg l (Qe h1))).2.1 t h2
  refine ⟨_,rfl,_,rfl,x,y,n,ws,hs,rfl,g,λmp H1 s1 zr=>?_⟩
  have g1:=g.same s1
  refine ⟨_,rfl,_,rfl,x,y,n,ws,hs,rfl,g1,λrp H2 qs rs s2 Cu xu R2 xy ER=>?_⟩
  refine ⟨iI (show 0<=1000 by decide),λlp fv=>?_⟩
  have md:=s1.trans s2
  have s3:=md.trans (aD.new (o:=.lst []) fv)
  have M4:H lp=none:=md.free fv
  have R3:=R2.same (aD.new (o:=.lst []) fv)
  have m3:=(s2.trans (aD.new (o:=.lst []) fv)) _ _ zr
  have e3:upd H2 lp (.lst []) lp=some (.lst []):=aB
  have EU:H rp=none:=s1.free Cu
  have HY:rp≠lp:=λz=>by have:=R2.lst; rw [z,fv] at this; cases this
  have X_:∀ q∈qs,q≠lp:=λq hq z=>by
   obtain ⟨i,hi⟩:=Qv.mp hq
   have JP:i < rs.length:=by rw [<- R2.len]; exact (Qa.mp hi).1
   have:=R2.row i q _ hi (Qb JP)
   rw [z,fv] at this; cases this
  have YB:mp≠lp:=λz=>by have:=s2 _ _ zr; rw [z,fv] at this; cases this
  generalize upd H2 lp (.lst [])=H3 at s3 R3 m3 e3 ⊢
  subst ex
  refine ⟨_,rfl,a,_,0,.int n,rfl,rfl,s3.ah ha,rfl,n,rfl,by omega,by omega,iO (lo:=0) (n:=n.toNat) (λi σ H4=>∃ (v5 v6 v7:Option V) (lv:List Int),σ = [some (.ref a),some y,some (.ref mp),some (.ref rp),some (.ref lp),v5,v6,v7]/\aD H H4/\Rows H4 rp qs rs/\H4 mp=some (.tup ((bS n hs).map V.int))/\H4 lp=some (.lst (lv.map V.int))/\lv.length=i /\
    ∀ (h:Nat) (v:Int),lv[h]?=some v->sG ws hs n.toNat h v/\((hs.count (h:Int):Nat):Int) - v < 2)
   ⟨none,none,none,[],rfl,s3,R3,m3,e3,rfl,λh v e=>by simp at e⟩ ?_ ?_⟩
  ·rintro i σ H4 hi ⟨v5,v6,v7,lv,rfl,s4,R4,m4,e4,Cy,L4⟩
   have JR:(0:Int)<=0+(i:Int):=by omega
   have A9:0+(i:Int) < n:=by omega
   refine ⟨_,rfl,_,rfl,rp,0+(i:Int),qs,rs,n,ws,hs,rfl,R4,xy,ER,jq,by omega,JR,A9,λji H5 fs os s5 Gb e5 T5 C5=>?_⟩
   have N1:=s4.trans s5
   have R5:=R4.same s5
   have m5:=s5 _ _ m4
   have l5:=s5 _ _ e4
   have T5l:=T5.len
   have vf:0 < os.length:=(Qa.mp T5.head).1
   refine ⟨_,rfl,os,λo=>((hs.count o:Nat):Int),.ref mp,⟨ji,rfl,.inr (.inr ⟨fs,e5,T5.keys⟩)⟩,vf,N1 _ _ hT,rfl,λo ho=>?_,λj m H6 s6 hj mw _=>?_⟩
   ·obtain ⟨o0,o1⟩:=T5.sv o ho
    refine ⟨o0,by omega,mp,_,rfl,.inl (aq.of m5),?_⟩
    rw [Qi,iS (by omega),show ((o.toNat:Nat):Int)=o by omega]
    rfl
   have qf:j < os.length:=(Qa.mp hj).1
   obtain ⟨m0,m1⟩:=T5.sv m (Qe hj)
   have HM:=N1.trans s6
   have R6:=R5.same s6
   have m6:=s6 _ _ m5
   have l6:=s6 _ _ l5
   have e6:=s6 _ _ e5
   have T6:=T5.tp (Tp.of s6)
   have Po:RL ws hs n.toNat (0+(i:Int)) m:=(T6.rl j m hj).mono (by omega)
   have Ay:sG ws hs n.toNat (0+(i:Int)) ((hs.count m:Nat):Int):=by
    refine ⟨⟨m,Po,rfl⟩,λk x hx=>?_⟩
    exact mw x (hx.closed (S:=λo=>o∈os) (λg w t hg e=>C5 g hg w t e) (Qe T5.head))
   refine ⟨_,rfl,_,rfl,mp,_,_,_,rfl,rfl,aq.of m6,lJ JR A9,_,rfl,_,rfl,mp,_,_,_,rfl,rfl,aq.of m6,lJ m0 m1,_,_,rfl,rfl,_,_,rfl,rfl,_,rfl,?_⟩
   refine gI (λc=>?_) (λc=>?_)
   ·have A':((hs.count (0+(i:Int)):Nat):Int) - ((hs.count m:Nat):Int)≥2:=of_decide_eq_true c
    refine ⟨_,rfl,_,rfl,ji,m,fs,os,0+(i:Int),n,ws,hs,j,rfl,e6,T6,by omega,hj,λp H7 ps ss s7 hp Dw S7 P7 N7 _ IF=>⟨i5 _ _,λq hq=>?_⟩⟩
    have s8:=aD.new (o:=.tup [.str "way",.ref p]) hq
    refine k q _ ((HM.trans s7).trans s8) (.inr ⟨p,ps,ss,aB,HM.free hp,s8 _ _ Dw,S7.tp (Tp.of s8),0+(i:Int),m,IF ?_,P7,N7,JR,A9,Po,A'⟩)
    rcases Yk j with z | z
    ·rw [z,T5.head] at hj
     cases hj
     omega
    ·exact z
   ·have bw:¬ ((hs.count (0+(i:Int)):Nat):Int) - ((hs.count m:Nat):Int)≥2:=λz=>c (decide_eq_true z)
    refine ⟨_,rfl,.inl ⟨rfl,_,au.of l6⟩,_,rfl,_,rfl,mp,_,_,_,rfl,rfl,aq.of m6,lJ m0 m1,lp,_,_,rfl,rfl,l6,by rw [Qd,Rf]; omega,?_⟩
    refine ⟨_,_,_,lv++[((hs.count m:Nat):Int)],rfl,HM.wr M4,?_,by rw [aF YB]; exact m6,by rw [aB,Qw]; rfl,by rw [Qg,Cy]; rfl,λh v e=>?_⟩
    ·refine ⟨by rw [aF HY]; exact R6.lst,R6.len,R6.nd,λg q r h1 h2=>?_⟩
     rw [aF (X_ q (Qe h1))]
     exact R6.row g q r h1 h2
    ·by_cases hh:h < lv.length
     ·rw [Qn hh] at e
      exact L4 h v e
     ·have eh:h=i:=by
       have:=(Qa.mp e).1
       rw [Qg] at this
       simp at this
       omega
      subst eh
      rw [Qr (by omega),Cy,Jy] at e
      have ev:((hs.count m:Nat):Int)=v:=by simpa using e
      rw [<- ev]
      rw [Wu] at Ay bw
      exact ⟨Ay,by omega⟩
  ·rintro σ H4 ⟨v5,v6,v7,lv,rfl,s4,R4,m4,e4,Cy,L4⟩
   refine ⟨_,rfl,lp,_,rfl,.inl ⟨au.of e4,λq hq=>⟨i5 _ _,λp hp=>?_⟩⟩⟩
   have s5:=(aD.new (o:=.tup (lv.map V.int)) hq).trans (aD.new (o:=.tup [.str "levels",.ref q]) hp)
   exact k p _ (s4.trans s5) (.inl ⟨q,lv,aB,(aD.new hp) _ _ aB,Cy,L4⟩)
end
def sH (n:Int) (ws:List (List Int)) (hs:List Int) (last:Int) (i:Int) (ss:List (Nat×Int×Int)):Prop :=
 (ss = []/\∀ h:Int,0<=h->h < i->hs.count last < hs.count h->∃ os:List Int,h∈os/\zD ws hs os/\last∉os) ∨
 ∃ h,ss≠[]/\fQ ws hs h ss last/\(h::ss.map (·.2.2)).Nodup/\0<=h/\h < n/\hs.count last < hs.count h
def zG (K:Rb):Sp:=λvs H Q _=>∃ (x y:V) (n:Int) (ws:List (List Int)) (hs:List Int) (k:Nat) (last:Int),vs = [x,y,.int k]/\rM K H x y n ws hs/\hs[k]?=some last /\
 ∀ p H' ps ss,aD H H'->H p=none->H' p=some (.lst (ps.map V.ref))->bj H' ps ss->sH n ws hs last n ss->Q (.ref p) H'
theorem gR:af ["book", "deal", "work", "many", "rows", "last", "best", "hand", "found", "some"] ["book", "deal", "work"] (aI qL):=.of
theorem aEk (G:Fn K mg "steps_of_take" qL ["book", "deal", "work"] f fd) (B:Bl mg) (GC:Fn K mg "counted" jY ["hands", "deal"] fC dC) (GH:Fn K mg "handing" jZ ["book", "deal"] CO CV) (GR:Fn K mg "reached" lE ["rows", "first"] fR dR) (GW:Fn K mg "way_to" rJ ["found", "last"] CK CS):ae P w K mg base ao 2 f fd ["book", "deal", "work"] (zG K):=by
 have OC:ae P w K mg base ao 1 fC dC ["hands", "deal"] (lH K):=pJ GC B
 have OH:ae P w K mg base ao 1 CO CV ["book", "deal"] (nX K):=pL GH B
 have OR:ae P w K mg base ao 1 fR dR ["rows", "first"] (nY K):=pM GR B
 have OW:ae P w K mg base ao 1 CK CS ["found", "last"] (sY K):=vG GW B
 refine G.fn.oK gR λbg A outer s H vs Q E hr h=>?_
 ·obtain ⟨x,y,n,ws,hs,kk,last,rfl,g,g9,k⟩:=h
  have r1:aj 1 _:=hr
  refine ⟨_,(aE (aX (i:=3) gR.nd rfl (Or.inl rfl) (aW GC OC r1 rfl (aA (bM cC (pv 0) aH (λ_ _=>rfl)) (aA (pv 1) aC))))
  (aE (aX (i:=4) gR.nd rfl (Or.inl rfl) (aW GH OH r1 rfl (aA (pv 0) (aA (pv 1) aC))))
  (aE (aX (i:=5) gR.nd rfl (Or.inl rfl) (bM cC (pv 1) (pv 2) (λ_ _=>rfl)))
  (aE (aX (i:=6) gR.nd rfl (Or.inl rfl) (gT aC))
  (aE (hV PassesOwn.never rfl (dZ rfl B.range (aA (bM cC (pv 0) aH (λ_ _=>rfl)) aC)) (aV (i:=7) gR.nd rfl (Or.inl rfl))
   (aE (aX (i:=8) gR.nd rfl (Or.inl rfl) (aW GR OR r1 rfl (aA (pv 4) (aA (pv 7) aC))))
  (aJ (bI (PW.pt (mL (rA (aG6 (bU hr) (pv 5) (pv 8)) (by with_unfolding_all rfl)) (lN (aP mM (bM cC (pv 3) (pv 7) (λ_ _=>rfl)) (bM cC (pv 3) (pv 5) (λ_ _=>rfl)) (aU _)))))
   (aE (aX (i:=9) gR.nd rfl (Or.inl rfl) (aW GW OW r1 rfl (aA (pv 8) (aA (pv 5) aC))))
  (aJ (bI (PW.pt (fZ (aP dX (aL bB rfl B.len eP (aA (pv 6) aC)) aH (aU _)) (eV (aP wM (aL bB rfl B.len eP (aA (pv 9) aC)) (aL bB rfl B.len eP (aA (pv 6) aC)) (aU _)))))
   (aJ (aX (i:=6) gR.nd rfl (Or.inl rfl) (pv 9)))
   aS)))
   aS))))
  (aJ (aR (pv 6)))))))),?_⟩
  obtain ⟨BV,iu,gh⟩:=g.len
  obtain ⟨a,b,ys,rfl,ha,oa,p_⟩:=lG g.1
  obtain ⟨dp,rfl,fe⟩:=cU.mp g.2.2.1
  obtain ⟨_,_,cz,fg⟩:=aZ g.2.1
  obtain ⟨jz,ox⟩:=eZ g.2.2.2
  have jq:∀ g w t,jF ws hs g w t->0<=t/\t < n:=λg w t e=>by
   obtain ⟨_,l,h1,h2,_⟩:=e
   exact (bA (fg l (Qe h1))).2.1 t h2
  have lr:0<=last/\last < n:=by
   have hk:kk < hs.length:=(Qa.mp g9).1
   have hl:=Qb (show kk < ws.length by omega)
   have:=ox kk _ _ g9 hl
   exact (bA (fg _ (Qe hl))).2.1 last this
  refine ⟨_,rfl,a,_,0,.int n,rfl,rfl,ha,rfl,_,rfl,n,dp,hs,rfl,fe,by omega,gh,λmp H1 s1 emp=>?_⟩
  dsimp only [bN]
  refine ⟨_,rfl,_,rfl,.ref a,.ref dp,n,ws,hs,rfl,⟨s1.den _ _ g.1,g.2.1,s1.den _ _ g.2.2.1,g.2.2.2⟩,λrp H2 qs rs s2 nrp nqs R2 xy ER=>?_⟩
  dsimp only [bN]
  have md:=s1.trans s2
  refine ⟨_,rfl,_,rfl,dp,_,_,_,rfl,rfl,md.ah fe,gA (v:=.int last) (by rw [Qi,g9]; rfl),?_⟩
  dsimp only [bN]
  refine ⟨iI (Jt _),λbp CH=>?_⟩
  have YJ:H bp=none:=md.free CH
  have Co:=aD.new (o:=.lst []) CH
  have eb:upd H2 bp (.lst []) bp=some (.lst (([]:List Addr).map V.ref)):=aB
  generalize upd H2 bp (.lst [])=H3 at Co eb ⊢
  dsimp only [bN]
  have xi:=md.trans Co
  refine ⟨_,rfl,a,_,0,.int n,rfl,rfl,xi.ah ha,rfl,n,rfl,by omega,by omega,iO (lo:=0) (n:=n.toNat) (λi σ H4=>∃ (bp:Addr) (ps:List Addr) (ss:List (Nat×Int×Int)) (v7 v8 v9:Option V),σ = [some (.ref a),some (.ref dp),some (.int kk),some (.ref mp),some (.ref rp),some (.int last),some (.ref bp),v7,v8,v9]/\aD H3 H4/\H bp=none/\H4 bp=some (.lst (ps.map V.ref))/\bj H4 ps ss/\sH n ws hs last i ss)
   ⟨bp,[],[],_,_,_,rfl,aD.refl _,YJ,eb,bj.nil,.inl ⟨rfl,λh h0 h1=>by omega⟩⟩ ?_ ?_⟩
  ·rintro i σ H4 hi ⟨bp,ps,ss,v7,v8,v9,rfl,s4,nb,e4,S4,T4⟩
   dsimp only [bN]
   rw [Wu]
   have N3:=Co.trans s4
   have AH:=xi.trans s4
   refine ⟨_,rfl,_,rfl,rp,(i:Int),qs,rs,n,ws,hs,rfl,R2.same N3,xy,ER,jq,by omega,by omega,by omega,λfp H5 fs os s5 nfp ef T5 C5=>?_⟩
   dsimp only [bN]
   have N4:=AH.trans s5
   have Z9:(i:Int)∈os:=Qe T5.head
   refine ⟨_,rfl,_,rfl,fp,_,rfl,kF.k (k:=.inl last) ef,_,rfl,?_⟩
   rw [sX T5.keys last]
   have Fd:=(s2.trans (N3.trans s5)) _ _ emp
   have MG:last∉os->sH n ws hs last ((i+1:Nat):Int) ss:=λgx=>by
    rcases T4 with ⟨e,f⟩ | q
    ·refine .inl ⟨e,λh h0 h1 hc=>?_⟩
     by_cases c:h < i
     ·exact f h h0 c hc
     ·rw [show h=(i:Int) by omega]
      exact ⟨os,Z9,C5,gx⟩
    ·exact .inr q
   refine gI (λc1=>?_) (λc1=>?_)
   ·have x_:last∈os:=of_decide_eq_true c1
    refine ⟨_,rfl,_,rfl,mp,_,_,_,rfl,rfl,aq.of Fd,lJ (by omega) (by omega),_,rfl,_,rfl,mp,_,_,_,rfl,rfl,aq.of Fd,lJ lr.1 lr.2,_,_,rfl,rfl,_,rfl,?_⟩
    refine gI (λc2=>?_) (λc2=>?_)
    ·have hc:hs.count last < hs.count (i:Int):=by have:=of_decide_eq_true c2; omega
     obtain ⟨jl,qf⟩:=Qv.mp x_
     refine ⟨_,rfl,_,rfl,fp,last,fs,os,(i:Int),n,ws,hs,jl,rfl,ef,T5,by omega,qf,λp H6 Oa HI s6 np e6 S6 P6 N6 _ J6=>?_⟩
     dsimp only [bN]
     have O2:0 < jl:=by
      rcases Yk jl with z | z
      ·rw [z,T5.head] at qf
       have:(i:Int)=last:=Option.some.inj qf
       rw [this] at hc; omega
      ·exact z
     have KG:=(s5.trans s6) _ _ e4
     refine ⟨_,rfl,bp,_,rfl,.inl (au.of KG),rfl,_,rfl,?_⟩
     have new:sH n ws hs last ((i+1:Nat):Int) HI:=.inr ⟨i,J6 O2,P6,N6,by omega,by omega,hc⟩
     have HN:=s4.trans (s5.trans s6)
     refine gI (λc3=>?_) (λc3=>?_)
     ·exact ⟨_,rfl,p,Oa,HI,_,_,_,rfl,HN,N4.free np,e6,S6,new⟩
     ·have hold:sH n ws hs last ((i+1:Nat):Int) ss:=by
       rcases T4 with ⟨e,_⟩ | q
       ·exfalso
        apply c3
        rw [Qd,S4.len,e]
        rfl
       ·exact .inr q
      refine ⟨_,rfl,p,_,rfl,.inl (au.of e6),_,rfl,bp,_,rfl,.inl (au.of KG),_,_,rfl,rfl,_,rfl,?_⟩
      refine gI (λc4=>?_) (λc4=>?_)
      ·exact ⟨_,rfl,p,Oa,HI,_,_,_,rfl,HN,N4.free np,e6,S6,new⟩
      ·exact ⟨bp,ps,ss,_,_,_,rfl,HN,nb,KG,S4.tp (Tp.of (s5.trans s6)),hold⟩
    ·refine ⟨bp,ps,ss,_,_,_,rfl,s4.trans s5,nb,s5 _ _ e4,S4.tp (Tp.of s5),?_⟩
     have ZV:¬ hs.count last < hs.count (i:Int):=λz=>c2 (decide_eq_true (by omega))
     rcases T4 with ⟨e,f⟩ | q
     ·refine .inl ⟨e,λh h0 h1 hc=>?_⟩
      by_cases c:h < i
      ·exact f h h0 c hc
      ·rw [show h=(i:Int) by omega] at hc
       exact absurd hc ZV
     ·exact .inr q
   ·exact ⟨bp,ps,ss,_,_,_,rfl,s4.trans s5,nb,s5 _ _ e4,S4.tp (Tp.of s5),MG λz=>c1 (decide_eq_true z)⟩
  ·rintro σ H4 ⟨bp,ps,ss,v7,v8,v9,rfl,s4,nb,e4,S4,T4⟩
   rw [show ((n.toNat:Nat):Int)=n by omega] at T4
   exact ⟨_,rfl,k bp H4 ps ss (xi.trans s4) nb e4 S4 T4⟩
def Lv (n:Int) (ws:List (List Int)) (hs:List Int) (lv:Int->Int):Prop :=
 (∀ h:Int,0<=h->h < n->lv h<=hs.count h/\((hs.count h:Nat):Int)<=lv h+1)/\∀ (w:Nat) (g:Int) (l:List Int),hs[w]?=some g->ws[w]?=some l->∀ t∈l,lv g<=lv t
def i1 (a b:Int):Int:=if a=b then 1 else 0
theorem TZ:∀ {hs:List Int} {w:Nat} {g t:Int},hs[w]?=some g->∀ y:Int,(((hs.set w t).count y:Nat):Int)+i1 g y=(hs.count y:Nat)+i1 t y
 | [],w,g,t,h,y=>by simp at h
 | x::hs,0,g,t,h,y=>by
  have e:x=g:=by simpa using h
  subst e
  rw [List.set_cons_zero,Xf,Xf]
  unfold i1
  by_cases c1:t=y <;> by_cases c2:x=y <;> simp [c1,c2] <;> omega
 | x::hs,w+1,g,t,h,y=>by
  have ih:=TZ (hs:=hs) (w:=w) (g:=g) (t:=t) (by simpa using h) y
  rw [List.set_cons_succ,Xf,Xf]
  omega
def d6 (hs:List Int) (ss:List (Nat×Int×Int)):List Int:=ss.foldl (λhs s=>hs.set s.1 s.2.2) hs
theorem kK:∀ (ss:List (Nat×Int×Int)) (hs:List Int),(d6 hs ss).length=hs.length
 | [],_=>rfl
 | s::ss,hs=>by
  show (d6 (hs.set s.1 s.2.2) ss).length=_
  rw [kK ss,Zk]
theorem VG {x h:Int} {w:Nat} {t':Int}:∀ {ss:List (Nat×Int×Int)} {hs:List Int} {t:Int},hs[w]?=some h->fQ ws hs t ss x->(∀ s∈ss,s.2.1≠h)->fQ ws (hs.set w t') t ss x
 | [],_,_,_,p,_=>p
 | s::ss,hs,t,hw,⟨e1,⟨e2,e3⟩,p⟩,hn=>by
  refine ⟨e1,⟨?_,e3⟩,VG hw p λs' dz=>hn s' (Qk _ dz)⟩
  rw [Xd]
  by_cases c:w=s.1
  ·rw [<- c,hw] at e2
   have:=hn s (Qp ..)
   rw [e1] at this
   exact absurd (Option.some.inj e2).symm this
  ·rw [if_neg c]; exact e2
theorem kL {x:Int}:∀ {ss:List (Nat×Int×Int)} {t:Int},fQ ws hs t ss x->∀ s∈ss,s.2.1=t∨∃ s'∈ss,s'.2.2=s.2.1
 | [],_,_,s,h=>(Qt h).elim
 | s0::ss,t,⟨e1,_,p⟩,s,h=>by
  rcases Ql.mp h with rfl | h
  ·exact .inl e1
  ·rcases kL p s h with z | ⟨s',z1,z2⟩
   ·exact .inr ⟨s0,Qp ..,z.symm⟩
   ·exact .inr ⟨s',Qk _ z1,z2⟩
theorem gW {x:Int}:∀ {ss:List (Nat×Int×Int)} {t:Int},fQ ws hs t ss x->∀ s∈ss,jF ws hs s.2.1 s.1 s.2.2
 | [],_,_,s,h=>(Qt h).elim
 | s0::ss,t,⟨e1,e2,p⟩,s,h=>by
  rcases Ql.mp h with rfl | h
  ·rw [e1]; exact e2
  ·exact gW p s h
theorem vI {x:Int}:∀ {ss:List (Nat×Int×Int)} {hs:List Int} {h:Int},fQ ws hs h ss x->(h::ss.map (·.2.2)).Nodup ->
  (∀ y:Int,(((d6 hs ss).count y:Nat):Int)+i1 h y=(hs.count y:Nat)+i1 x y) /\
  ∀ (w:Nat) (g:Int),(d6 hs ss)[w]?=some g->hs[w]?=some g∨∃ s∈ss,s.1=w/\s.2.2=g/\hs[w]?=some s.2.1
 | [],hs,h,p,_=>by
  have e:h=x:=p
  subst e
  exact ⟨λy=>rfl,λw g q=>.inl q⟩
 | s::ss,hs,h,⟨e1,⟨e2,e3⟩,p⟩,nd=>by
  have xp:=Jk.mp nd
  have ff:∀ s'∈ss,s'.2.1≠h:=λs' dz z=>by
   rcases kL p s' dz with q | ⟨s2,q1,q2⟩
   ·exact xp.1 (by rw [<- z,q]; exact Qp ..)
   ·exact xp.1 (Qk _ (Xu.mpr ⟨s2,q1,q2.trans z⟩))
  have p':=VG (t':=s.2.2) e2 p ff
  obtain ⟨Y7,Y6⟩:=vI p' (by have:=xp.2; rwa [Qz] at this)
  refine ⟨λy=>?_,λw g q=>?_⟩
  ·have a:=Y7 y
   have b:=TZ (t:=s.2.2) e2 y
   show (((d6 (hs.set s.1 s.2.2) ss).count y:Nat):Int)+i1 h y=_
   omega
  ·have q':(d6 (hs.set s.1 s.2.2) ss)[w]?=some g:=q
   rcases Y6 w g q' with z | ⟨s',z1,z2,z3,z4⟩
   ·rw [Xd] at z
    by_cases c:s.1=w
    ·have hl:s.1 < hs.length:=(Qa.mp e2).1
     rw [if_pos c,if_pos hl] at z
     exact .inr ⟨s,Qp ..,c,Option.some.inj z,by rw [<- c,e1]; exact e2⟩
    ·rw [if_neg c] at z
     exact .inl z
   ·rw [Xd] at z4
    by_cases c:s.1=w
    ·have hl:s.1 < hs.length:=(Qa.mp e2).1
     rw [if_pos c,if_pos hl] at z4
     exfalso
     have:=(gW p s' z1).1
     rw [z2,<- c,e2] at this
     exact ff s' z1 (Option.some.inj this).symm
    ·rw [if_neg c] at z4
     exact .inr ⟨s',Qk _ z1,z2,z3,z4⟩
theorem tE {n:Int} (L:Lv n ws hs lv) {g t:Int} {w:Nat} (e:jF ws hs g w t):lv g<=lv t:=by
 obtain ⟨e1,l,e2,e3,_⟩:=e
 exact L.2 w g l e1 e2 t e3
theorem tF {x:Int}:∀ {ss:List (Nat×Int×Int)} {h:Int},(∀ s∈ss,lv s.2.1<=lv s.2.2)->fQ ws hs h ss x->lv h<=lv x/\∀ s∈ss,lv h<=lv s.2.1/\lv s.2.2<=lv x
 | [],h,_,p=>by
  have e:h=x:=p
  rw [e]
  exact ⟨Zi _,λs hs=>(Qt hs).elim⟩
 | s::ss,h,hl,⟨e1,_,p⟩=>by
  obtain ⟨a,b⟩:=tF (λs' dz=>hl s' (Qk _ dz)) p
  have c:=hl s (Qp ..)
  rw [e1] at c
  refine ⟨by omega,λs' dz=>?_⟩
  rcases Ql.mp dz with rfl | dz
  ·rw [e1]; exact ⟨Zi _,a⟩
  ·have:=b s' dz; omega
theorem aEl {n:Int} (L:Lv n ws hs lv) (hr:∀ (w:Nat) l,ws[w]?=some l->∀ t∈l,0<=t/\t < n) (W:Sq n ws hs ss):False:=by
 obtain ⟨h,x,ff,p,_,h0,h1,_,hd⟩:=W
 have a:=(tF (lv:=lv) (λs dz=>tE L (gW p s dz)) p).1
 have hx:0<=x/\x < n:=by
  have:∀ {ss:List (Nat×Int×Int)} {h:Int},ss≠[]->fQ ws hs h ss x->0<=x/\x < n:=by
   intro ss
   induction ss with
   | nil=>intro h z; exact absurd rfl z
   | cons s ss ih =>
    intro h _ ⟨_,⟨_,l,q1,q2,_⟩,p⟩
    cases ss with
    | nil =>
     have e:s.2.2=x:=p
     rw [<- e]; exact hr _ _ q1 _ q2
    | cons s2 ss=>exact ih (by simp) p
  exact this ff p
 have b:=L.1 h h0 h1
 have c:=L.1 x hx.1 hx.2
 omega
theorem aHf {n:Int} {ai:List Int} {os:List Int} {last:Int} (L:Lv n ws hs lv) (hl:hs.length=ws.length) (hr:∀ g∈hs,0<=g/\g < n) (wr:∀ l∈ws,∀ t∈l,0<=t/\t < n) (ar:∀ t∈ai,0<=t/\t < n) (rh:∀ (w:Nat) g l,hs[w]?=some g->ws[w]?=some l->g∈l) (p:fQ (ws++[ai]) (hs++[n]) n ss last) (nd:(n::ss.map (·.2.2)).Nodup) (ne:ss≠[]) (C:zD (ws++[ai]) (hs++[n]) os) (hn:n∈os) (hm:∀ o∈os,o≠n->0<=o/\o < n/\((hs.count last:Nat):Int)<=(hs.count o:Nat)) (x_:last∈os) (ya:last≠n) (F4:∀ s∈ss,s.2.2∈os) :
  (∃ xq,Lv n (ws++[ai]) (d6 (hs++[n]) ss) xq)/\∀ (w:Nat) g l,(d6 (hs++[n]) ss)[w]?=some g->(ws++[ai])[w]?=some l->g∈l:=by
 obtain ⟨cn,wk⟩:=vI p nd
 have c0:hs.count n=0:=Yl.mpr λz=>by have:=hr n z; omega
 have c1:∀ y:Int,(((hs++[n]).count y:Nat):Int)=(hs.count y:Nat)+i1 n y:=λy=>by
  rw [Yt,Xf,List.count_nil]
  unfold i1
  by_cases q:n=y <;> simp [q]
 have cg:∀ y:Int,(((d6 (hs++[n]) ss).count y:Nat):Int)=(hs.count y:Nat)+i1 last y:=λy=>by
  have:=cn y
  have:=c1 y
  omega
 have gn:∀ (w:Nat) g,(d6 (hs++[n]) ss)[w]?=some g->g≠n:=λw g q z=>by
  have h1:=cg n
  have h2:i1 last n=0:=if_neg ya
  have h4:=Qe q
  rw [z] at h4
  have h3:0 < (d6 (hs++[n]) ss).count n:=List.count_pos_iff.mpr h4
  omega
 have old:∀ (w:Nat) g,(hs++[n])[w]?=some g->g≠n->hs[w]?=some g:=λw g q z=>by
  by_cases c:w < hs.length
  ·rwa [Qn c] at q
  ·rw [Qr (by omega)] at q
   by_cases c2:w - hs.length=0
   ·rw [c2] at q
    exact absurd (by simpa using q.symm) z
   ·rw [Ju (by simp; omega)] at q; cases q
 have BA:∀ (w:Nat) l,w < hs.length->(ws++[ai])[w]?=some l->ws[w]?=some l:=λw l c q=>by rwa [Qn (by omega)] at q
 have M:=((hs.count last:Nat):Int)
 -- the levels
 obtain ⟨n_,gy⟩:∃ n_:Int->Int,∀ h,n_ h=if h∈os then max (lv h) ((hs.count last:Nat):Int) else lv h:=⟨_,λ_=>rfl⟩
 have ge:∀ h∈os,((hs.count last:Nat):Int)<=n_ h:=λh hh=>by rw [gy,if_pos hh]; omega
 have up:∀ h,lv h<=n_ h:=λh=>by rw [gy]; split <;> omega
 have O!:∀ (w:Nat) g l,hs[w]?=some g->ws[w]?=some l->g∈os->∀ t∈l,t∈os:=λw g l q1 q2 q3 t ht=>by
  by_cases c:t=g
  ·rw [c]; exact q3
  ·have hw:=(Qa.mp q1).1
   exact C g q3 w t ⟨by rw [Qn hw]; exact q1,l,by rw [Qn (by omega)]; exact q2,ht,c⟩
 have mono:∀ (w:Nat) g l,hs[w]?=some g->ws[w]?=some l->∀ t∈l,n_ g<=n_ t:=λw g l q1 q2 t ht=>by
  have h1:=L.2 w g l q1 q2 t ht
  rw [gy,gy]
  by_cases c:g∈os
  ·rw [if_pos c,if_pos (O! w g l q1 q2 c t ht)]; omega
  ·rw [if_neg c]; split <;> omega
 have lr:0<=last/\last < n:=⟨(hm last x_ ya).1,(hm last x_ ya).2.1⟩
 have l2:n_ last=((hs.count last:Nat):Int):=by
  have:=(L.1 last lr.1 lr.2).1
  rw [gy,if_pos x_]; omega
 -- every taker lies at the least level
 have tk:∀ s∈ss,n_ s.2.2=((hs.count last:Nat):Int):=by
  cases ss with
  | nil=>exact absurd rfl ne
  | cons s0 ss =>
   obtain ⟨e1,e2,p2⟩:=p
   have xp:=Jk.mp nd
   have FI:∀ s∈ss,n_ s.2.1<=n_ s.2.2:=λs dz=>by
    have e:=gW p2 s dz
    obtain ⟨q1,l,q2,q3,_⟩:=e
    have JS:s.2.1≠n:=λz=>by
     rcases kL p2 s dz with y | ⟨s',y1,y2⟩
     ·exact xp.1 (by rw [<- z,y]; exact Qp ..)
     ·exact xp.1 (Qk _ (Xu.mpr ⟨s',y1,y2.trans z⟩))
    have k_:=old _ _ q1 JS
    exact mono _ _ l k_ (BA _ l (Qa.mp k_).1 q2) _ q3
   obtain ⟨a,b⟩:=tF FI p2
   intro s dz
   have h1:=ge _ (F4 s dz)
   rcases Ql.mp dz with rfl | h2
   ·omega
   ·have:=b s h2; omega
 have moved:∀ s∈ss,∀ l,(ws++[ai])[s.1]?=some l->s.2.2∈l/\∀ t∈l,t∈os:=λs dz l q=>by
  obtain ⟨q1,l',q2,q3,_⟩:=gW p s dz
  rw [q] at q2
  cases q2
  refine ⟨q3,λt ht=>?_⟩
  have zw:s.2.1∈os:=by
   rcases kL p s dz with y | ⟨s',y1,y2⟩
   ·rw [y]; exact hn
   ·rw [<- y2]; exact F4 s' y1
  by_cases c:t=s.2.1
  ·rw [c]; exact zw
  ·exact C _ zw s.1 t ⟨q1,l,q,ht,c⟩
 refine ⟨⟨n_,λh h0 h1=>?_,λw g l q1 q2 t ht=>?_⟩,λw g l q1 q2=>?_⟩
 ·rw [cg]
  have b:=L.1 h h0 h1
  by_cases c:last=h
  ·rw [<- c,l2]
   have:i1 last last=1:=if_pos rfl
   rw [<- c] at b
   omega
  ·have e:i1 last h=0:=if_neg c
   rw [e,gy]
   by_cases c2:h∈os
   ·have:=hm h c2 (by omega)
    rw [if_pos c2]; omega
   ·rw [if_neg c2]; omega
 ·rcases wk w g q1 with z | ⟨s,z1,z2,z3,z4⟩
  ·have z':=old w g z (gn w g q1)
   exact mono w g l z' (BA w l (Qa.mp z').1 q2) t ht
  ·rw [<- z3,tk s z1]
   exact ge t ((moved s z1 l (by rw [z2]; exact q2)).2 t ht)
 ·rcases wk w g q1 with z | ⟨s,z1,z2,z3,z4⟩
  ·have z':=old w g z (gn w g q1)
   exact rh w g l z' (BA w l (Qa.mp z').1 q2)
  ·rw [<- z3]
   exact (moved s z1 l (by rw [z2]; exact q2)).1
theorem xG:∀ {hs:List Int} {k:Nat} {g:Int},hs[k]?=some g->∀ y:Int,(((hs.eraseIdx k).count y:Nat):Int)+i1 g y=(hs.count y:Nat)
 | [],k,g,h,y=>by simp at h
 | x::hs,0,g,h,y=>by
  have e:x=g:=by simpa using h
  subst e
  rw [List.eraseIdx_cons_zero,Xf]
  unfold i1
  by_cases c2:x=y <;> simp [c2]
 | x::hs,k+1,g,h,y=>by
  have ih:=xG (hs:=hs) (k:=k) (g:=g) (by simpa using h) y
  rw [Xw,Xf,Xf]
  omega
theorem fJ {l:List α} {k w:Nat} {x:α} (h:(l.eraseIdx k)[w]?=some x):l[if w < k then w else w+1]?=some x:=by
 rw [List.getElem?_eraseIdx] at h
 split at h
 ·rename_i c; rw [if_pos c]; exact h
 ·rename_i c; rw [if_neg c]; exact h
theorem VF {n:Int} {k:Nat} {g0:Int} (h1:∀ h:Int,0<=h->h < n->lv h<=(hs.count h:Nat) - i1 g0 h/\((hs.count h:Nat):Int) - i1 g0 h<=lv h+1) (h2:∀ (w:Nat) (g:Int) (l:List Int),hs[w]?=some g->ws[w]?=some l->∀ t∈l,lv g<=lv t) (hk:hs[k]?=some g0):Lv n (ws.eraseIdx k) (hs.eraseIdx k) lv:=by
 refine ⟨λh a b=>?_,λw g l q1 q2 t ht=>h2 _ g l (fJ q1) (fJ q2) t ht⟩
 have:=h1 h a b
 have:=xG hk h
 omega
theorem aFK {n:Int} {k:Nat} {last:Int} (L:Lv n ws hs lv) (hk:hs[k]?=some last) (hr:∀ g∈hs,0<=g/\g < n) (rh:∀ (w:Nat) g l,hs[w]?=some g->ws[w]?=some l->g∈l) (T:sH n ws hs last n ss) :
  (∃ xq,Lv n (ws.eraseIdx k) ((d6 hs ss).eraseIdx k) xq)/\(∀ (w:Nat) g l,(d6 hs ss)[w]?=some g->ws[w]?=some l->g∈l):=by
 have lr:=hr last (Qe hk)
 rcases T with ⟨e,gx⟩ | ⟨h,ff,p,nd,h0,h1,hc⟩
 ·subst e
  refine ⟨?_,rh⟩
  show ∃ xq,Lv n (ws.eraseIdx k) (hs.eraseIdx k) xq
  obtain ⟨qw,vd⟩:∃ qw:Int->Prop,∀ h,qw h↔∃ j,RL ws hs j h last:=⟨_,λ_=>Iff.rfl⟩
  have dc:∀ h,Decidable (qw h):=λh=>Classical.propDecidable _
  obtain ⟨n_,gy⟩:∃ n_:Int->Int,∀ h,(qw h->n_ h=min (lv h) (((hs.count last:Nat):Int) - 1))/\(¬ qw h->n_ h=lv h):=⟨λh=>@ite _ (qw h) (dc h) (min (lv h) (((hs.count last:Nat):Int) - 1)) (lv h),λh=>⟨λz=>if_pos z,λz=>if_neg z⟩⟩
  have rl:qw last:=(vd last).mpr ⟨0,rfl⟩
  have le:∀ h,qw h->lv h<=lv last:=λh z=>by
   obtain ⟨j,r⟩:=(vd h).mp z
   exact RL.closed (S:=λx=>lv h<=lv x) (λg w t a e=>Int.le_trans a (tE L e)) (Zi _) r
  have j2:∀ h,0<=h->h < n->qw h->hs.count h<=hs.count last:=λh a b z=>by
   by_cases c:hs.count last < hs.count h
   ·obtain ⟨os,o1,o2,o3⟩:=gx h a b c
    obtain ⟨j,r⟩:=(vd h).mp z
    exact absurd (RL.closed (S:=λx=>x∈os) (λg w t a e=>o2 g a w t e) o1 r) o3
   ·omega
  have bl:=L.1 last lr.1 lr.2
  refine ⟨n_,VF (g0:=last) (λh a b=>?_) (λw g l q1 q2 t ht=>?_) hk⟩
  ·have b0:=L.1 h a b
   by_cases c:qw h
   ·have b1:=j2 h a b c
    have b2:=le h c
    rw [(gy h).1 c]
    by_cases d:last=h
    ·rw [<- d]
     have:i1 last last=1:=if_pos rfl
     omega
    ·have:i1 last h=0:=if_neg d
     omega
   ·rw [(gy h).2 c]
    have:i1 last h=0:=if_neg λ(z:last=h)=>c (z ▸ rl)
    omega
  ·have b0:=L.2 w g l q1 q2 t ht
   by_cases c:qw t
   ·have cg:qw g:=by
     by_cases d:t=g
     ·rw [<- d]; exact c
     ·obtain ⟨j,r⟩:=(vd t).mp c
      exact (vd g).mpr ⟨j+1,.inr ⟨w,t,⟨q1,l,q2,ht,d⟩,r⟩⟩
    rw [(gy g).1 cg,(gy t).1 c]; omega
   ·rw [(gy t).2 c]
    by_cases cg:qw g
    ·rw [(gy g).1 cg]; omega
    ·rw [(gy g).2 cg]; exact b0
 ·obtain ⟨cn,wk⟩:=vI p nd
  have pl:=tF (lv:=lv) (λs dz=>tE L (gW p s dz)) p
  have b1:=L.1 h h0 h1
  have b2:=L.1 last lr.1 lr.2
  have eh:lv h=lv last:=by omega
  have qe:(d6 hs ss)[k]?=some last:=by
   have hl:k < (d6 hs ss).length:=by rw [kK]; exact (Qa.mp hk).1
   have q:=Qb hl
   rcases wk k _ q with z | ⟨s,z1,z2,z3,z4⟩
   ·rw [q,<- z,hk]
   ·exfalso
    rw [hk] at z4
    have e:last=s.2.1:=Option.some.inj z4
    -- no giver is the last
    have:∀ {ss:List (Nat×Int×Int)} {h:Int},fQ ws hs h ss last->(h::ss.map (·.2.2)).Nodup->∀ s∈ss,s.2.1≠last:=by
     intro ss
     induction ss with
     | nil=>intro h _ _ s dz; exact (Qt dz).elim
     | cons s0 ss ih =>
      intro h ⟨e1,e2,p2⟩ nd s dz
      have xp:=Jk.mp nd
      rcases Ql.mp dz with rfl | dz
      ·intro z
       have hl:∀ {ss:List (Nat×Int×Int)} {t:Int},fQ ws hs t ss last->last∈t::ss.map (·.2.2):=by
        intro ss
        induction ss with
        | nil=>intro t p; rw [show t=last from p]; exact Qp ..
        | cons s1 ss ih=>intro t p; exact Qk _ (ih p.2.2)
       have:=hl p2
       rw [<- z,e1] at this
       exact xp.1 (by rw [Qz]; exact this)
      ·exact ih p2 (by have:=xp.2; rwa [Qz] at this) s dz
    exact this p nd s z1 e.symm
  refine ⟨⟨lv,VF (g0:=last) (λy a b=>?_) (λw g l q1 q2 t ht=>?_) qe⟩,λw g l q1 q2=>?_⟩
  ·have c1:=cn y
   have c2:=L.1 y a b
   by_cases d:h=y
   ·subst d
    have e1:i1 h h=1:=if_pos rfl
    omega
   ·have e1:i1 h y=0:=if_neg d
    omega
  ·rcases wk w g q1 with z | ⟨s,z1,z2,z3,z4⟩
   ·exact L.2 w g l z q2 t ht
   ·have a1:=L.2 w s.2.1 l z4 q2 t ht
    have a2:=pl.2 s z1
    rw [<- z3]
    have a3:lv s.2.1=lv h:=by
     have:=tE L (gW p s z1)
     omega
    omega
  ·rcases wk w g q1 with z | ⟨s,z1,z2,z3,z4⟩
   ·exact rh w g l z q2
   ·obtain ⟨_,l',q3,q4,_⟩:=gW p s z1
    rw [z2,q2] at q3
    cases q3
    rw [<- z3]; exact q4
theorem aC3 {n:Int} {lv:List Int} (L:nF n ws hs lv):lv.length=n.toNat/\(∀ (h:Nat) v,lv[h]?=some v->v<=(hs.count (h:Int):Nat)/\((hs.count (h:Int):Nat):Int)<=v+1)/\∀ (w:Nat) (g:Nat) (l:List Int),hs[w]?=some (g:Int)->ws[w]?=some l->∀ t:Nat,(t:Int)∈l->∀ u v,lv[g]?=some u->lv[t]?=some v->u<=v:=by
 refine ⟨L.1,λh v q=>?_,λw g l q1 q2 t ht u v h1 h2=>?_⟩
 ·obtain ⟨a,b⟩:=L.2 h v q
  have:=a.le
  omega
 ·by_cases c:(t:Int)=g
  ·have e:t=g:=by omega
   rw [e,h1] at h2
   rw [Option.some.inj h2]; exact Zi _
  ·exact (L.2 g u h1).1.Nm (L.2 t v h2).1 ⟨q1,l,q2,ht,c⟩
theorem aC4 {n:Int} {a b:Addr} (h1:aq K H a [.int n,.ref b]) (h2:aq K H b ys) (h3:bP K H (ws.map gF) ys):Den K H (mH n ws) (.ref a) :=
 bC.mpr ⟨a,_,rfl,h1,bG.mpr ⟨_,_,rfl,cF.mpr rfl,bG.mpr ⟨_,_,rfl,bC.mpr ⟨b,ys,rfl,h2,h3⟩,bY.mpr rfl⟩⟩⟩
theorem rQ:∀ {ds:List PyData} {zs:List V},zs.length=ds.length->(∀ (i:Nat) d z,ds[i]?=some d->zs[i]?=some z->Den K H d z)->bP K H ds zs
 | [],[],_,_=>bY.mpr rfl
 | [],_::_,h,_=>by cases h
 | _::_,[],h,_=>by cases h
 | d::ds,z::zs,hl,h=>bG.mpr ⟨z,zs,rfl,h 0 d z rfl rfl,rQ (by simpa using hl) λi d' z' h1 h2=>h (i+1) d' z' h1 h2⟩
theorem bJ {b:Bool} {A:Prop} (e:b=false) (h:B):if b=true then A else B:=by subst e; exact oH h
theorem eG {b:Bool} {A:Prop} (e:b=true) (h:A):if b=true then A else B:=by subst e; exact kN h
theorem xH:bootBuiltins "any" = some (.builtin "any"):=by decide +kernel
theorem qS (i:Int) (l:List Int):uf (.int i) (l.map V.int)=decide (i∈l):=by
 rw [yU,Xl,Xg,decide_eq_true_iff]
 exact ⟨λ⟨y,h1,h2⟩=>by have:y=i:=(by simpa using h2); rw [<- this]; exact h1,λh=>⟨i,h,by simp⟩⟩
theorem ba.iw {r:List (Key×V)} {a:Addr} (e:ba t H H') (ht:H t=some (.dK r)) (h:aq K H a xs):aq K H' a xs:=by
 rcases h with (h | ⟨o,h⟩) | h
 ·exact .inl (.inl (e a _ (λz=>by rw [z,ht] at h; cases h) h))
 ·exact .inl (.inr ⟨o,e a _ (λz=>by rw [z,ht] at h; cases h) h⟩)
 ·exact .inr h
structure Mt (K:Rb) (C:Addr) (m:Str) (st:Stmt) (ps:List Str) (f:Addr) (fd:FuncData):Prop where
 fn:o8 K m (("Dealing." : Str)++m) st f fd
 me:Meth K C m f
 bd:jT K fd ps []
structure Dc (K:Rb) (C:Addr):Prop where
 cl:u6 K C
 n1:iP K C "many_hands"
 n2:iP K C "able_of"
 n3:iP K C "hand_of"
 n4:iP K C "next_number"
 n5:iP K C "moved_last"
 n6:iP K C "moved_in_all"
structure DD where
 n:Int
 nx:Int
 ml:Int
 ma:Int
 nums:List Int
 ws:List (List Int)
 hs:List Int
 dx:Addr
 da:Addr
 dh:Addr
 ts:List Addr
end Ab
variable {D:DD}
namespace Ab
open PySem L2
def DD.fj (D:DD):List (Str×V):=[("many_hands",.int D.n),("able_of",.ref D.da),("hand_of",.ref D.dh),("next_number",.int D.nx),("moved_last",.int D.ml),("moved_in_all",.int D.ma)]
def a_ (nums:List Int) (ts:List Addr):List (Key×V):=(nums.zip ts).map λp=>(.inl p.1,.ref p.2)
def cx (nums hs:List Int):List (Key×V):=(nums.zip hs).map λp=>(.inl p.1,.int p.2)
structure ft (K:Rb) (H:Hp) (C x:Addr) (D:DD):Prop where
 ins:H x=some (.ins C D.dx D.fj)
 ai:H D.da=some (.dK (a_ D.nums D.ts))
 hand:H D.dh=some (.dK (cx D.nums D.hs))
 tl:D.ts.length=D.nums.length
 wl:D.ws.length=D.nums.length
 hl:D.hs.length=D.nums.length
 tup:∀ (i:Nat) t l,D.ts[i]?=some t->D.ws[i]?=some l->aq K H t (l.map V.int)
 ne:D.da≠D.dh
structure km (D:DD):Prop where
 bk:iQ (mH D.n D.ws)=true
 dl:sE D.ws (xF D.hs)=true
 up:D.nums.Pairwise (· < ·)
 j2:∀ k∈D.nums,0<=k/\k < D.nx
 nx:0<=D.nx
 lv:∃ lv,Lv D.n D.ws D.hs lv
theorem ft.same {x:Addr} (h:ft K H C x D) (s:aD H H'):ft K H' C x D :=
 ⟨s _ _ h.ins,s _ _ h.ai,s _ _ h.hand,h.tl,h.wl,h.hl,λi t l a b=>s.ah (h.tup i t l a b),h.ne⟩
theorem aEm {ts:List Addr} (h:ts.length=nums.length):(a_ nums ts).map (·.2)=ts.map V.ref:=by
 unfold a_
 rw [Xv]
 show (nums.zip ts).map (λp=>V.ref p.2)=_
 rw [show (λp:Int×Addr=>V.ref p.2)=V.ref ∘ Prod.snd from rfl,<- Xv,List.map_snd_zip (by omega)]
theorem VE (h:hs.length=nums.length):(cx nums hs).map (·.2)=hs.map V.int:=by
 unfold cx
 rw [Xv]
 show (nums.zip hs).map (λp=>V.int p.2)=_
 rw [show (λp:Int×Int=>V.int p.2)=V.int ∘ Prod.snd from rfl,<- Xv,List.map_snd_zip (by omega)]
def qT (K:Rb) (C:Addr):Sp:=λvs H Q _=>∃ (x:Addr) (D:DD),vs = [.ref x]/\ft K H C x D/\∀ p H',aD H H'->Den K H' (mH D.n D.ws) (.ref p)->Q (.ref p) H'
theorem aFL:af ["self"] ["self"] (aI uU):=.of
theorem aEn (G:Mt K C "book_now" uU ["self"] f fd) (T:Dc K C) (B:Bl mg):ae P w K mg base ao 1 f fd ["self"] (qT K C):=by
 refine G.fn.oK aFL λbg A outer s H vs Q E hr h=>?_
 ·obtain ⟨x,D,rfl,hD,k⟩:=h
  refine ⟨_,aJ (aR (cB (aA (cL (pv 0) rfl) (aA (cR (mG rfl) rfl B.tuple gE (aA (tU Ti Th Tq lB (cL (pv 0) rfl)) aC)) aC)))),?_⟩
  refine ⟨_,rfl,x,C,D.dx,_,_,rfl,hD.ins,T.cl,T.n1,rfl,_,rfl,x,C,D.dx,_,_,rfl,hD.ins,T.cl,T.n2,rfl,.inr (.inr (.inl ⟨rfl,.inl ⟨_,hD.ai⟩⟩)),D.da,_,rfl,rfl,.inl hD.ai,λv hv=>⟨v,D.da,_,rfl,aB,.inl ((aD.new hv) _ _ hD.ai),λt ht=>⟨i5 _ _,λp hp=>?_⟩⟩⟩
  rw [aEm hD.tl] at hp ⊢
  have s1:=(aD.new (o:=jw v D.da) hv).trans ((aD.new (o:=.tup (D.ts.map V.ref)) ht).trans (aD.new (o:=.tup [.int D.n,.ref t]) hp))
  refine k p _ s1 (aC4 (aq.of aB) ((aD.new hp).ah (aq.of aB)) (rQ (by rw [Qd,Qd,hD.tl,hD.wl]) λi d z h1 h2=>?_))
  rw [Qi] at h1 h2
  obtain ⟨l,hl,rfl⟩:=Qs.mp h1
  obtain ⟨t',qa,rfl⟩:=Qs.mp h2
  exact cU.mpr ⟨t',rfl,s1.ah (hD.tup i t' l qa hl)⟩
def oA (K:Rb) (C:Addr):Sp:=λvs H Q _=>∃ (x:Addr) (D:DD),vs = [.ref x]/\ft K H C x D/\∀ p H',aD H H'->H' p=some (.tup (D.hs.map V.int))->Q (.ref p) H'
theorem aFM:af ["self"] ["self"] (aI nC):=.of
theorem aEo (G:Mt K C "deal_now" nC ["self"] f fd) (T:Dc K C) (B:Bl mg):ae P w K mg base ao 1 f fd ["self"] (oA K C):=by
 refine G.fn.oK aFM λbg A outer s H vs Q E hr h=>?_
 ·obtain ⟨x,D,rfl,hD,k⟩:=h
  refine ⟨_,aJ (aR (cR (mG rfl) rfl B.tuple gE (aA (tU Ti Th Tq lB (cL (pv 0) rfl)) aC))),?_⟩
  refine ⟨_,rfl,x,C,D.dx,_,_,rfl,hD.ins,T.cl,T.n3,rfl,.inr (.inr (.inl ⟨rfl,.inl ⟨_,hD.hand⟩⟩)),D.dh,_,rfl,rfl,.inl hD.hand,λv hv=>⟨v,D.dh,_,rfl,aB,.inl ((aD.new hv) _ _ hD.hand),λt ht=>?_⟩⟩
  rw [VE hD.hl]
  exact k t _ ((aD.new hv).trans (aD.new ht)) aB
def DD.moved (D:DD) (m:Int):DD:={ D with ml:=m,ma:=D.ma+m }
def oB (K:Rb) (C:Addr):Sp:=λvs H Q _=>∃ (x:Addr) (D:DD) (m:Int),vs = [.ref x,.int m]/\H x=some (.ins C D.dx D.fj)/\Q .br (upd H x (.ins C D.dx (D.moved m).fj))
theorem aFN:af ["self", "many"] ["self", "many"] (aI nD):=.of
theorem aEp (G:Mt K C "count_moved" nD ["self", "many"] f fd) (T:Dc K C):ae P w K mg base ao 1 f fd ["self", "many"] (oB K C):=by
 refine G.fn.oK aFN λbg A outer s H vs Q E hr h=>?_
 ·obtain ⟨x,D,m,rfl,hx,k⟩:=h
  refine ⟨_,aE (pA (pv 0) (pv 1) rfl) (aJ (nJ (pv 0) (pv 1) LH)),?_⟩
  refine ⟨_,rfl,_,rfl,x,C,D.dx,_,rfl,hx,T.cl,T.n5,(show (6:Nat) < 1000 by decide),?_⟩
  refine ⟨_,rfl,x,C,D.dx,_,_,rfl,aB,T.cl,T.n6,rfl,_,rfl,_,_,rfl,rfl,D.dx,_,aB,(show (6:Nat) < 1000 by decide),?_⟩
  rw [kG]
  exact k
def vJ (K:Rb) (C:Addr):Sp:=λvs H Q _=>∃ (x:Addr) (D:DD),vs = [.ref x]/\ft K H C x D/\0<=D.n/\D.n<=6/\∀ p H',aD H H'->H' p=some (.tup ((bS D.n D.hs).map V.int))->Q (.ref p) H'
theorem aEq:af ["self"] ["self"] (aI rH):=.of
theorem aC5 (G:Mt K C "loads" rH ["self"] f fd) (T:Dc K C) (GD:Mt K C "deal_now" nC ["self"] fD dD) (OD:ae P w K mg base ao 1 fD dD ["self"] (oA K C)) (GC:Fn K mg "counted" jY ["hands", "deal"] fC dC) (OC:ae P w K mg base ao 1 fC dC ["hands", "deal"] (lH K)):ae P w K mg base ao 2 f fd ["self"] (vJ K C):=by
 refine G.fn.oK aEq λbg A outer s H vs Q E hr h=>?_
 ·obtain ⟨x,D,rfl,hD,h0,h6,k⟩:=h
  have r1:aj 1 _:=hr
  refine ⟨_,aJ (aR (aW GC OC r1 rfl (aA (cL (pv 0) rfl) (aA (cV (pv 0) T.cl GD.me OD r1 GD.bd .nil gH) aC)))),?_⟩
  refine ⟨_,rfl,x,C,D.dx,_,_,rfl,hD.ins,T.cl,T.n1,rfl,_,rfl,x,D.dx,_,rfl,hD.ins,rfl,x,D,rfl,hD,λp H1 s1 hp=>?_⟩
  exact ⟨D.n,p,D.hs,rfl,aq.of hp,h0,h6,λq H2 s2 hq=>k q H2 (s1.trans s2) hq⟩
def zH (K:Rb) (C:Addr):Sp:=λvs H Q _=>∃ (x:Addr) (D:DD),vs = [.ref x]/\H x=some (.ins C D.dx D.fj)/\∀ p,H p=none->Q (.ref p) (upd H p (.tup [.int D.ml,.int D.ma]))
theorem aFO:af ["self"] ["self"] (aI uX):=.of
theorem aEr (G:Mt K C "moved" uX ["self"] f fd) (T:Dc K C):ae P w K mg base ao 1 f fd ["self"] (zH K C):=by
 refine G.fn.oK aFO λbg A outer s H vs Q E hr h=>?_
 ·obtain ⟨x,D,rfl,hx,k⟩:=h
  refine ⟨_,aJ (aR (cB (aA (cL (pv 0) rfl) (aA (cL (pv 0) rfl) aC)))),?_⟩
  exact ⟨_,rfl,x,C,D.dx,_,_,rfl,hx,T.cl,T.n5,rfl,_,rfl,x,C,D.dx,_,_,rfl,hx,T.cl,T.n6,rfl,i5 _ _,λp hp=>k p hp⟩
theorem LF:bootBuiltins "dict" = some (.type "dict"):=by decide +kernel
def zI (K:Rb) (C:Addr):Sp:=λvs H Q _=>∃ (x:Addr) (D:DD),vs = [.ref x]/\ft K H C x D/\∀ p,H p=none->Q (.ref p) (upd H p (.dK (cx D.nums D.hs)))
theorem aFP:af ["self"] ["self"] (aI Eg):=.of
theorem aEs (G:Mt K C "deal" Eg ["self"] f fd) (T:Dc K C) (B:Bl mg):ae P w K mg base ao 1 f fd ["self"] (zI K C):=by
 refine G.fn.oK aFP λbg A outer s H vs Q E hr h=>?_
 ·obtain ⟨x,D,rfl,hD,k⟩:=h
  refine ⟨_,aJ (aR (cR yP rfl B.dict LF (aA (cL (pv 0) rfl) aC))),?_⟩
  exact ⟨_,rfl,x,C,D.dx,_,_,rfl,hD.ins,T.cl,T.n3,rfl,D.dh,_,rfl,.inl hD.hand,λp hp=>k p hp⟩
section
variable {dK:FuncData}
def xI (K:Rb) (C Pt:Addr):Sp:=λvs H Q _=>∃ (x:Addr) (D:DD),vs = [.ref x]/\ft K H C x D/\km D/\H Pt=some (.tab qR)/\∀ q lv H',aD H H'->H' q=some (.tup (lv.map V.int))->nF D.n D.ws D.hs lv->Q (.ref q) H'
theorem aC6:af ["self"] ["self"] (aI qK):=.of
theorem aBB {QS:Addr} {RB:FuncData} (G:Mt K C "levels" qK ["self"] f fd) (T:Dc K C) (GB:Mt K C "book_now" uU ["self"] z_ Ad) (OB:ae P w K mg base ao 1 z_ Ad ["self"] (qT K C)) (GD:Mt K C "deal_now" nC ["self"] zz Ac) (OD:ae P w K mg base ao 1 zz Ac ["self"] (oA K C)) (GLw:Fn K mg "levels_or_way" GO ["book", "deal"] QS RB) (OLw:ae P w K mg base ao 8 QS RB ["book", "deal"] (K7 K Pt)):ae P w K mg base ao 9 f fd ["self"] (xI K C Pt):=by
 refine G.fn.oK aC6 λbg A outer s H vs Q E hr h=>?_
 ·obtain ⟨x,D,rfl,hD,hM,hT,k⟩:=h
  have r8:aj 8 _:=hr
  have r1:aj 1 _:=hr.mono (by decide)
  refine ⟨_,aJ (aR (bM cC (aW GLw OLw r8 rfl (aA (cV (pv 0) T.cl GB.me OB r1 GB.bd .nil gH) (aA (cV (pv 0) T.cl GD.me OD r1 GD.bd .nil gH) aC))) aH (λ_ _=>rfl))),?_⟩
  refine ⟨_,rfl,x,D.dx,_,rfl,hD.ins,rfl,x,D,rfl,hD,λp H1 s1 hp=>?_⟩
  refine ⟨_,rfl,x,D.dx,_,rfl,s1 _ _ hD.ins,rfl,x,D,rfl,hD.same s1,λq H2 s2 hq=>?_⟩
  have md:=s1.trans s2
  refine ⟨.ref p,.ref q,D.n,D.ws,D.hs,rfl,⟨s2.den _ _ hp,hM.bk,cU.mpr ⟨q,rfl,aq.of hq⟩,hM.dl⟩,md _ _ hT,λr H3 s3 TD=>?_⟩
  rcases TD with ⟨q',lv,e1,e2,L⟩ | ⟨q',ps,ss,_,_,_,_,W⟩
  ·exact ⟨r,_,1,.ref q',rfl,rfl,aq.of e1,rfl,k q' lv H3 (md.trans s3) e2 L⟩
  ·obtain ⟨lv,L⟩:=hM.lv
   exact (aEl L (λw l hl t ht=>(bA ((aZ hM.bk).2.2.2 l (Qe hl))).2.1 t ht) W).elim
def DD.pd (D:DD):DD:={ D with n:=D.n+1,ml:=0 }
def TY (K:Rb) (C:Addr):Sp:=λvs H Q _=>∃ (x:Addr) (D:DD),vs = [.ref x]/\H x=some (.ins C D.dx D.fj)/\D.n≠6/\Q (.int D.n) (upd H x (.ins C D.dx D.pd.fj))
theorem TX:af ["self"] ["self"] (aI uW):=.of
theorem aEt (G:Mt K C "come" uW ["self"] f fd) (T:Dc K C) (B:Bl mg) (GC:Mt K C "count_moved" nD ["self", "many"] fC dC) (OC:ae P w K mg base ao 1 fC dC ["self", "many"] (oB K C)):ae P w K mg base ao 2 f fd ["self"] (TY K C):=by
 obtain ⟨Hz,F'⟩:=B.f_
 refine G.fn.oK TX λbg A outer s H vs Q E hr h=>?_
 ·obtain ⟨x,D,rfl,hx,h6,k⟩:=h
  have r1:aj 1 _:=hr
  refine ⟨_,aE (bI (aP dX (cL (pv 0) rfl) (lM (v:=.int 6) rfl F' ⟨Hz,rfl⟩) (aU _)) dY aS)
   (aE (nJ (pv 0) aH LH)
   (aE (cK (kH (pv 0) T.cl GC.me OC r1 GC.bd .nil gH (aA aH aC)))
   (aJ (aR (aY fP (cL (pv 0) rfl) aH))))),?_⟩
  refine ⟨_,rfl,x,C,D.dx,_,_,rfl,hx,T.cl,T.n1,rfl,rfl,_,rfl,bJ (decide_eq_false λz=>h6 (by injection z)) ?_⟩
  refine ⟨_,rfl,x,C,D.dx,_,_,rfl,hx,T.cl,T.n1,rfl,_,_,rfl,rfl,D.dx,_,hx,(show (6:Nat) < 1000 by decide),?_⟩
  refine ⟨_,rfl,x,D.dx,_,rfl,aB,rfl,x,{ D with n:=D.n+1 },0,rfl,aB,?_⟩
  rw [kG]
  refine ⟨_,rfl,x,C,D.dx,_,_,rfl,aB,T.cl,T.n1,rfl,_,_,rfl,rfl,?_⟩
  have e:D.n+1 - 1=D.n:=by omega
  have e2:((({ D with n:=D.n+1 }:DD).moved 0).fj)=D.pd.fj:=by
   unfold DD.moved DD.pd DD.fj
   simp
  show Q (.int (D.n+1 - 1)) (upd H x (.ins C D.dx ((({ D with n:=D.n+1 }:DD).moved 0).fj)))
  rw [e,e2]
  exact k
def DD.gone (D:DD):DD:={ D with n:=D.n - 1,ml:=0 }
def So (K:Rb) (C:Addr):Sp:=λvs H Q _=>∃ (x:Addr) (D:DD),vs = [.ref x]/\ft K H C x D/\D.n≠1/\(∀ l∈D.ws,D.n - 1∉l)/\D.nums.length<=1000/\∀ H',ba x H H'->H' x=some (.ins C D.dx D.gone.fj)->Q .br H'
theorem G1:af ["self", "last"] ["self"] (aI p8):=.of
theorem aHg (G:Mt K C "go" p8 ["self"] f fd) (T:Dc K C) (B:Bl mg) (GC:Mt K C "count_moved" nD ["self", "many"] fC dC) (OC:ae P w K mg base ao 1 fC dC ["self", "many"] (oB K C)):ae P w K mg base ao 2 f fd ["self"] (So K C):=by
 refine G.fn.oK G1 λbg A outer s H vs Q E hr h=>?_
 ·obtain ⟨x,D,rfl,hD,h1,gx,hlen,k⟩:=h
  have r1:aj 1 _:=hr
  refine ⟨_,aE (aX (i:=1) G1.nd rfl (Or.inr rfl) (aY fP (cL (pv 0) rfl) aH))
   (aE (bI (PW.pt (fZ (aP dX (pv 1) aH (aU _)) (eV (bL (aL (kZ rfl) rfl B.any xH (aA (VL (own:=["able"]) (fr:=[1]) (bo:=["last"]) (bK (aI p8) ["self", "last"] rfl rfl (by decide +kernel)) rfl (tU Ti Th Tq lB (cL (pv 0) rfl))
    (λ_ _ _ _=>(aV (i:=0) (show (["able", "last"]:List Str).Nodup by decide +kernel) rfl (Or.inl rfl))) (λ_ _ _ _=>eM)
    (λ_ _ _ _=>(gN (gY (K:=K) rfl) (pv 1) (pv 0) (by with_unfolding_all rfl)))) aC)))))) dY aS)
   (aE (nJ (pv 0) aH aGS)
   (aJ (cK (kH (pv 0) T.cl GC.me OC r1 GC.bd .nil gH (aA aH aC)))))),?_⟩
  refine ⟨_,rfl,x,C,D.dx,_,_,rfl,hD.ins,T.cl,T.n1,rfl,_,_,rfl,rfl,?_⟩
  dsimp only [bN]
  refine ⟨_,rfl,rfl,_,rfl,bJ (decide_eq_false λz=>h1 (by injection z; omega)) ?_⟩
  refine ⟨_,rfl,x,C,D.dx,_,_,rfl,hD.ins,T.cl,T.n2,rfl,.inr (.inr (.inl ⟨rfl,.inl ⟨_,hD.ai⟩⟩)),D.da,_,rfl,rfl,.inl hD.ai,λv hv=>?_⟩
  have s1:=aD.new (o:=jw v D.da) hv
  have ev:upd H v (jw v D.da) v=some (jw v D.da):=aB
  have oz:=hD.same s1
  generalize upd H v (jw v D.da)=H1 at s1 ev oz ⊢
  refine ⟨v,D.da,_,rfl,ev,oz.ai,λo=>?_⟩
  have z2:upd H1 D.da (.bq o (.dK (a_ D.nums D.ts))) D.da=some (.bq o (.dK (a_ D.nums D.ts))):=aB
  have b2:ba D.da H1 (upd H1 D.da (.bq o (.dK (a_ D.nums D.ts)))):=ba.at
  have lh:(a_ D.nums D.ts).length=D.nums.length:=by unfold a_; rw [Qd,Xr,hD.tl,Zu]
  refine xB (a:=D.da) (o:=o) (kvs:=a_ D.nums D.ts) (λσ=>∃ u,σ = [u,some (.int (D.n - 1))]) (λi zs H2=>zs=(List.replicate i false).map V.bl/\H2=upd H1 D.da (.bq o (.dK (a_ D.nums D.ts)))) (iI (by omega)) ⟨none,rfl⟩ ⟨rfl,rfl⟩ (λi zs H2 h=>by rw [h.1,Qd,Jj]; exact Qh _) (λi zs H2 h=>by rw [h.2]; exact z2) ?_ ?_
  ·rintro i zs σ kv H2 ie ⟨u,rfl⟩ ⟨rfl,rfl⟩ hz
   obtain ⟨num,t,cm,ht,rfl⟩:∃ num t,D.nums[i]?=some num/\D.ts[i]?=some t/\kv=(.inl num,.ref t):=by
    unfold a_ at ie
    rw [Qi] at ie
    obtain ⟨p,hp,e⟩:=Qs.mp ie
    rw [Je] at hp
    exact ⟨p.1,p.2,hp.1,hp.2,e.symm⟩
   have hi:i < D.ts.length:=(Qa.mp ht).1
   have hl:=Qb (show i < D.ws.length by rw [hD.wl,<- hD.tl]; exact hi)
   generalize D.ws[i]'(by rw [hD.wl,<- hD.tl]; exact hi)=l at hl
   have j9:=oz.tup i t l ht hl
   have BN:aq K (upd H1 D.da (.bq o (.dK (a_ D.nums D.ts)))) t (l.map V.int):=b2.iw oz.ai j9
   refine cQ ?_
   refine ⟨_,rfl,_,rfl,t,_,rfl,.inr BN,rfl,jQ _,hz,⟨_,rfl⟩,?_,rfl⟩
   rw [Ya,Qw]
   show _++[V.bl (uf (.int (D.n - 1)) (l.map V.int))]=_
   rw [qS,decide_eq_false (gx l (Qe hl))]; rfl
  ·rintro zs H2 ⟨rfl,rfl⟩ pc gj
   have pz:pc≠D.da:=λz=>by rw [z,z2] at gj; cases gj
   refine ⟨pc,List.replicate (a_ D.nums D.ts).length false,rfl,au.of (by rw [aF pz,aB]),_,rfl,?_⟩
   have s3:aD H1 (upd (upd (upd H1 D.da (.bq o (.dK (a_ D.nums D.ts)))) pc (.lst ((List.replicate (a_ D.nums D.ts).length false).map V.bl))) D.da (.dK (a_ D.nums D.ts))):=λb' u d9=>by
    by_cases c:b'=D.da
    ·rw [c] at d9 ⊢
     rw [aB,<- oz.ai]; exact d9
    ·have n2:b'≠pc:=λz=>by rw [aF pz] at gj; rw [z,gj] at d9; cases d9
     rw [aF c,aF n2,aF c]; exact d9
   generalize upd (upd (upd H1 D.da (.bq o (.dK (a_ D.nums D.ts)))) pc (.lst ((List.replicate (a_ D.nums D.ts).length false).map V.bl))) D.da (.dK (a_ D.nums D.ts))=H4 at s3 ⊢
   refine bJ (by simp) ?_
   have s4:=s1.trans s3
   have OG:=s4 _ _ hD.ins
   refine ⟨_,rfl,x,C,D.dx,_,_,rfl,OG,T.cl,T.n1,rfl,_,_,rfl,rfl,D.dx,_,OG,(show (6:Nat) < 1000 by decide),?_⟩
   refine ⟨_,rfl,x,D.dx,_,rfl,aB,rfl,x,{ D with n:=D.n - 1 },0,rfl,aB,?_⟩
   rw [kG]
   refine k _ (λc' u hc hu=>by rw [aF hc]; exact s4 _ _ hu) ?_
   rw [aB]
   unfold DD.moved DD.gone DD.fj
   simp
end
theorem oC (h:hs.length=nums.length):(cx nums hs).length=nums.length:=by unfold cx; rw [Qd,Xr,h,Zu]
theorem gS {ts:List Addr} (h:ts.length=nums.length):(a_ nums ts).length=nums.length:=by unfold a_; rw [Qd,Xr,h,Zu]
theorem vK {ts:List Addr} (h:ts.length=nums.length) (k:Int) (t:Addr):a_ (nums++[k]) (ts++[t])=a_ nums ts++[(.inl k,.ref t)]:=by
 unfold a_
 rw [List.zip_append h.symm,Qw]; rfl
theorem aEu (h:hs.length=nums.length) (k g:Int):cx (nums++[k]) (hs++[g])=cx nums hs++[(.inl k,.int g)]:=by
 unfold cx
 rw [List.zip_append h.symm,Qw]; rfl
theorem jG {ts:List Addr} (h:ts.length=nums.length):((a_ nums ts).map λkv=>kV kv.1)=nums.map V.int:=by
 unfold a_
 rw [Xv]
 show (nums.zip ts).map (λp=>V.int p.1)=_
 rw [show (λp:Int×Addr=>V.int p.1)=V.int ∘ Prod.fst from rfl,<- Xv,List.map_fst_zip (by omega)]
theorem iT {f:α->V}:∀ {nums:List Int} {xs:List α} {k:Int},k∉nums->bW ((nums.zip xs).map λp=>((Sum.inl p.1:Key),f p.2)) (.inl k)=none
 | [],_,_,_=>rfl
 | _::_,[],_,_=>rfl
 | n::nums,x::xs,k,h=>by
  have ne:¬ (Sum.inl n:Key)=Sum.inl k:=λz=>h (by have:n=k:=(by simpa using z); rw [this]; exact Qp ..)
  show bW (((Sum.inl n:Key),f x)::_) (.inl k)=none
  rw [cP ne]
  exact iT λz=>h (Qk _ z)
theorem cJ {f:α->V}:∀ {nums:List Int} {xs:List α} {k:Int} {i:Nat} {x:α},nums.Nodup->nums[i]?=some k->xs[i]?=some x->bW ((nums.zip xs).map λp=>((Sum.inl p.1:Key),f p.2)) (.inl k)=some (f x)
 | [],_,_,_,_,_,h,_=>by simp at h
 | _::_,[],_,_,_,_,_,h=>by simp at h
 | n::nums,y::xs,k,0,x,_,h1,h2=>by
  have e1:n=k:=by simpa using h1
  have e2:y=x:=by simpa using h2
  subst e1 e2
  show bW (((Sum.inl n:Key),f y)::_) (.inl n)=_
  rw [dP rfl]
 | n::nums,y::xs,k,i+1,x,nd,h1,h2=>by
  have r_:nums[i]?=some k:=by simpa using h1
  have ne:¬ (Sum.inl n:Key)=Sum.inl k:=λz=>(Jk.mp nd).1 (by have:n=k:=(by simpa using z); rw [this]; exact Qe r_)
  show bW (((Sum.inl n:Key),f y)::_) (.inl k)=_
  rw [cP ne]
  exact cJ (Jk.mp nd).2 r_ (by simpa using h2)
theorem xJ (nd:l.Nodup) {x:Int} (a:l[i]?=some x) (b:l[j]?=some x):i=j:=by
 obtain ⟨h1,e1⟩:=Qa.mp a
 obtain ⟨h2,e2⟩:=Qa.mp b
 exact (Zh nd).mp (e1.trans e2.symm)
theorem VD:∀ {nums hs:List Int} {k:Nat} {key v:Int},nums.Nodup->hs.length=nums.length->nums[k]?=some key->eQ (cx nums hs) (.inl key) (.int v)=cx nums (hs.set k v):=by
 intro nums hs k key v nd hl hk
 have we:k < hs.length:=by rw [hl]; exact (Qa.mp hk).1
 have dz:(bW (cx nums hs) (.inl key)).isSome=true:=by
  have:=cJ (f:=V.int) nd hk (Qb we)
  unfold cx
  rw [this]; rfl
 unfold eQ
 rw [iE,dz,if_pos rfl]
 unfold cx
 rw [Xv]
 refine Yu λj=>?_
 rw [Qi,Qi]
 cases h1:nums[j]? with
 | none =>
  have e1:(nums.zip hs)[j]?=none:=by rw [Yo] at h1 ⊢; rw [Xr]; omega
  have e2:(nums.zip (hs.set k v))[j]?=none:=by rw [Yo] at h1 ⊢; rw [Xr]; omega
  rw [e1,e2]; rfl
 | some m =>
  have hj:j < hs.length:=by rw [hl]; exact (Qa.mp h1).1
  have e1:(nums.zip hs)[j]?=some (m,hs[j]):=Je.mpr ⟨h1,Qb hj⟩
  rw [e1]
  by_cases c:j=k
  ·subst c
   have em:m=key:=by rw [hk] at h1; exact (Option.some.inj h1).symm
   have e2:(nums.zip (hs.set j v))[j]?=some (m,v):=Je.mpr ⟨h1,by rw [Xd,if_pos rfl,if_pos hj]⟩
   rw [e2]
   show some (if (Sum.inl m:Key)=Sum.inl key then _ else _)=some _
   rw [if_pos (by rw [em])]
  ·have e2:(nums.zip (hs.set k v))[j]?=some (m,hs[j]):=Je.mpr ⟨h1,by rw [Xd,if_neg (Ne.symm c)]; exact Qb hj⟩
   rw [e2]
   have nm:¬ (Sum.inl m:Key)=Sum.inl key:=λz=>by
    have z':m=key:=by simpa using z
    rw [z'] at h1
    exact c (xJ nd h1 hk)
   show some (if (Sum.inl m:Key)=Sum.inl key then _ else _)=some _
   rw [if_neg nm]
theorem qU {f:α->V}:∀ {nums:List Int} {xs:List α} {k:Nat} {key:Int},nums.Nodup->xs.length=nums.length->nums[k]?=some key->qB ((nums.zip xs).map λp=>((Sum.inl p.1:Key),f p.2)) (.inl key)=((nums.eraseIdx k).zip (xs.eraseIdx k)).map λp=>((Sum.inl p.1:Key),f p.2)
 | [],_,_,_,_,_,h=>by simp at h
 | _::_,[],_,_,_,h,_=>by simp at h
 | n::nums,x::xs,0,key,nd,hl,h=>by
  have e:n=key:=by simpa using h
  subst e
  have hn:=(Jk.mp nd).1
  show List.filter _ (_::_)=_
  rw [Zy,if_neg (by simp)]
  refine List.filter_eq_self.mpr λp hp=>?_
  obtain ⟨q,hq,rfl⟩:=Xu.mp hp
  have:=(Yd hq).1
  simp
  intro z
  exact hn (z ▸ this)
 | n::nums,x::xs,k+1,key,nd,hl,h=>by
  have h':nums[k]?=some key:=by simpa using h
  have ih:=qU (f:=f) (Jk.mp nd).2 (by simpa using hl:xs.length=nums.length) h'
  have ne:¬ n=key:=λz=>(Jk.mp nd).1 (z ▸ Qe h')
  show List.filter _ (_::_)=_::_
  rw [Zy,if_pos (by simp [ne])]
  congr 1
def bT (x a b:Addr) (H H':Hp):Prop:=∀ c u,c≠x->c≠a->c≠b->H c=some u->H' c=some u
theorem bT.refl (x a b:Addr) (H:Hp):bT x a b H H:=λ_ _ _ _ _ h=>h
theorem bT.trans {x a b:Addr} (p:bT x a b H H1) (q:bT x a b H1 H2):bT x a b H H2:=λc u h1 h2 h3 h=>q c u h1 h2 h3 (p c u h1 h2 h3 h)
theorem bT.of {x a b:Addr} (s:aD H H'):bT x a b H H':=λc u _ _ _ h=>s c u h
theorem bT.x {x a b:Addr} {u:HO}:bT x a b H (upd H x u):=λc v h1 _ _ h=>by rw [aF h1]; exact h
theorem bT.a {x a b:Addr} {u:HO}:bT x a b H (upd H a u):=λc v _ h2 _ h=>by rw [aF h2]; exact h
theorem bT.b {x a b:Addr} {u:HO}:bT x a b H (upd H b u):=λc v _ _ h3 h=>by rw [aF h3]; exact h
theorem bT.ah {x a b:Addr} {fs:List (Str×V)} {k1 k2:List (Key×V)} (p:bT x a b H H') (hx:H x=some (.ins C dx fs)) (ha:H a=some (.dK k1)) (hb:H b=some (.dK k2)) (h:aq K H t xs):aq K H' t xs:=by
 have n:∀ u,H t=some u->(∀ C dx fs,u≠.ins C dx fs)->(∀ k,u≠.dK k)->H' t=some u:=λu e h1 h2 =>
  p t u (λz=>by rw [z,hx] at e; exact h1 _ _ _ (Option.some.inj e).symm) (λz=>by rw [z,ha] at e; exact h2 _ (Option.some.inj e).symm) (λz=>by rw [z,hb] at e; exact h2 _ (Option.some.inj e).symm) e
 rcases h with (h | ⟨o,h⟩) | h
 ·exact .inl (.inl (n _ h (by intro _ _ _ z; cases z) (by intro _ z; cases z)))
 ·exact .inl (.inr ⟨o,n _ h (by intro _ _ _ z; cases z) (by intro _ z; cases z)⟩)
 ·exact .inr h
theorem VC (hs:List Int) {s:Nat×Int×Int} (h:ss[i]?=some s):d6 hs (ss.take (i+1))=(d6 hs (ss.take i)).set s.1 s.2.2:=by
 obtain ⟨h1,h2⟩:=Qa.mp h
 rw [Xb h1,h2]
 unfold d6
 rw [Yv]; rfl
theorem aEv (l:List α) (x y:α):(l++[x]).set l.length y=l++[y]:=by
 rw [List.set_append_right _ _ (Qh _)]; simp
def DD.put (D:DD) (l:List Int) (t:Addr) (hs:List Int) (m:Int):DD:={ D with nx:=D.nx+1,ml:=m,ma:=D.ma+m,nums:=D.nums++[D.nx],ws:=D.ws++[l],hs:=hs,ts:=D.ts++[t] }
structure Fi (D:DD) (l:List Int) (hs:List Int) (m:Int) (ss:List (Nat×Int×Int)) (last:Int):Prop where
 path:fQ (D.ws++[l]) (D.hs++[D.n]) D.n ss last
 nd:(D.n::ss.map (·.2.2)).Nodup
 ne:ss≠[]
 hs:hs=d6 (D.hs++[D.n]) ss
 m:m=(ss.length:Int) - 1
def Sn (K:Rb) (C Pt:Addr):Sp:=λvs H Q _=>∃ (x t:Addr) (D:DD) (l:List Int),vs = [.ref x,.ref t]/\ft K H C x D/\km D/\aq K H t (l.map V.int)/\cA D.n (gF l)=true/\D.nums.length < 12/\H Pt=some (.tab rP) /\
 ∀ hs m ss last H',bT x D.da D.dh H H'->Fi D l hs m ss last->ft K H' C x (D.put l t hs m)->km (D.put l t hs m)->Q (.int D.nx) H'
theorem sI:af ["self", "able", "steps", "number", "numbers", "work", "giver", "taker"] ["self", "able"] (aI Bn):=.of
set_option maxHeartbeats 1000000 in
theorem aHh {DY QT QR Bi:Addr} {D7 RD RA Bm:FuncData} (G:Mt K C "put" Bn ["self", "able"] f fd) (T:Dc K C) (B:Bl mg) (L7:Fn K mg "is_work" pI ["hands", "thing"] DY D7) (LN:ae P w K mg base ao 2 DY D7 ["hands", "thing"] (qQ K)) (GB:Mt K C "book_now" uU ["self"] z_ Ad) (OB:ae P w K mg base ao 1 z_ Ad ["self"] (qT K C)) (GD:Mt K C "deal_now" nC ["self"] zz Ac) (OD:ae P w K mg base ao 1 zz Ac ["self"] (oA K C)) (V9:Mt K C "loads" rH ["self"] QT RD) (OLm:ae P w K mg base ao 2 QT RD ["self"] (vJ K C)) (Bz:Fn K mg "steps_to_least" lF ["book", "deal", "able", "measures"] QR RA) (Bs:ae P w K mg base ao 2 QR RA ["book", "deal", "able", "measures"] (zF K Pt)) (EF:Mt K C "count_moved" nD ["self", "many"] Bi Bm) (Am:ae P w K mg base ao 1 Bi Bm ["self", "many"] (oB K C)):ae P w K mg base ao 3 f fd ["self", "able"] (Sn K C Pt):=by
 obtain ⟨Hy,JN⟩:=B.de
 refine G.fn.oK sI λbg A outer s H vs Q E hr h=>?_
 ·obtain ⟨x,t,D,l,rfl,hD,hM,ht,mj,lu,hT,k⟩:=h
  have r2:aj 2 _:=hr
  have r1:aj 1 _:=hr.mono (by decide)
  refine ⟨_,aE (bI (bV (bL (aW L7 LN r2 rfl (aA (cL (pv 0) rfl) (aA (pv 1) aC))))) dY aS)
   (aE (bI (aP dX (aL lA rfl B.len eP (aA (cL (pv 0) rfl) aC)) (lM (v:=.int 12) rfl JN ⟨Hy,rfl⟩) (aU _)) dY aS)
   (aE (aX (i:=2) sI.nd rfl (Or.inl rfl) (aW Bz Bs r2 rfl (aA (cV (pv 0) T.cl GB.me OB r1 GB.bd .nil gH) (aA (cV (pv 0) T.cl GD.me OD r1 GD.bd .nil gH) (aA (pv 1) (aA (cV (pv 0) T.cl V9.me OLm r2 V9.bd .nil gH) aC))))))
   (aE (aX (i:=3) sI.nd rfl (Or.inl rfl) (cL (pv 0) rfl))
   (aE (iY (bU hr) (cL (pv 0) rfl) (pv 3) (pv 1) rfl)
   (aE (aX (i:=4) sI.nd rfl (Or.inl rfl) (cR (jL rfl) rfl B.list pE (aA (cL (pv 0) rfl) aC)))
   (aE (hV PassesOwn.never rfl (hU (pv 2)) (oW rfl (dJ (aV (i:=5) sI.nd rfl (Or.inl rfl)) (dJ (aV (i:=6) sI.nd rfl (Or.inl rfl)) (dJ (aV (i:=7) sI.nd rfl (Or.inl rfl)) lO))))
    (aJ (iY (bU hr) (cL (pv 0) rfl) (bM cM (pv 4) (pv 5) (λ_ _=>rfl)) (pv 7) rfl)))
   (aE (nJ (pv 0) aH LH)
   (aE (cK (kH (pv 0) T.cl EF.me Am r1 EF.bd .nil gH (aA (aY fP (aL bB rfl B.len eP (aA (pv 2) aC)) aH) aC)))
   (aJ (aR (pv 3))))))))))),?_⟩
  obtain ⟨iu,gh,cz,fg⟩:=aZ hM.bk
  obtain ⟨jz,ox⟩:=eZ hM.dl
  obtain ⟨l0,l1,l2⟩:=bA mj
  have zp:∀ g∈D.hs,0<=g/\g < D.n:=λg hg=>by
   obtain ⟨i,hi⟩:=Qv.mp hg
   have hl:=Qb (show i < D.ws.length by rw [<- jz]; exact (Qa.mp hi).1)
   exact (bA (fg _ (Qe hl))).2.1 g (ox i _ _ hi hl)
  have dk:D.nums.Nodup:=Jd.mpr (hM.up.imp λh=>Jz h)
  refine ⟨_,rfl,x,C,D.dx,_,_,rfl,hD.ins,T.cl,T.n1,rfl,_,rfl,D.n,.ref t,gF l,rfl,cU.mpr ⟨t,rfl,ht⟩,_,rfl,bJ (by rw [mj]; rfl) ?_⟩
  refine ⟨_,rfl,x,C,D.dx,_,_,rfl,hD.ins,T.cl,T.n2,rfl,D.da,_,rfl,hD.ai,rfl,_,rfl,bJ (decide_eq_false λz=>?_) ?_⟩
  ·injection z with z
   rw [gS hD.tl] at z
   omega
  refine ⟨_,rfl,x,D.dx,_,rfl,hD.ins,rfl,x,D,rfl,hD,λbp H1 s1 CH=>?_⟩
  refine ⟨_,rfl,x,D.dx,_,rfl,s1 _ _ hD.ins,rfl,x,D,rfl,hD.same s1,λdp H2 s2 fe=>?_⟩
  have md:=s1.trans s2
  refine ⟨_,rfl,_,rfl,x,D.dx,_,rfl,md _ _ hD.ins,rfl,x,D,rfl,hD.same md,by omega,gh,λmp H3 s3 zr=>?_⟩
  have xi:=md.trans s3
  refine ⟨.ref bp,dp,t,mp,D.n,D.ws,D.hs,l,bS D.n D.hs,rfl,⟨(s2.trans s3).den _ _ CH,hM.bk,cU.mpr ⟨dp,rfl,aq.of (s3 _ _ fe)⟩,hM.dl⟩,xi.ah ht,mj,aq.of zr,by unfold bS; rw [Qd,gK],xi _ _ hT,λsp H4 ps ss os last s4 X8 sf SS PT ND NE CL yu mw x_ ya F4=>?_⟩
  dsimp only [bN]
  have AH:=xi.trans s4
  have ij:=hD.same AH
  have sz:∀ n:Nat,n < 1000->n < sizeLine:=λn h=>Yg h (by decide +kernel)
  have wb:D.da≠x:=λz=>by have:=ij.ai; rw [z,ij.ins] at this; cases this
  have ue:D.dh≠x:=λz=>by have:=ij.hand; rw [z,ij.ins] at this; cases this
  refine ⟨_,rfl,x,C,D.dx,_,_,rfl,ij.ins,T.cl,T.n4,rfl,?_⟩
  dsimp only [bN]
  refine ⟨_,rfl,_,rfl,x,C,D.dx,_,_,rfl,ij.ins,T.cl,T.n2,rfl,_,rfl,D.da,_,rfl,qF.k (k:=.inl D.nx) ij.ai (sz _ (by rw [gS hD.tl]; omega)),?_⟩
  have kr:D.nx∉D.nums:=λz=>by have:=hM.j2 _ z; omega
  have e5:eQ (a_ D.nums D.ts) (.inl D.nx) (.ref t)=a_ (D.nums++[D.nx]) (D.ts++[t]):=by
   rw [vK hD.tl]
   exact jW _ (iT kr)
  rw [e5]
  have x5:upd H4 D.da (.dK (a_ (D.nums++[D.nx]) (D.ts++[t]))) x=some (.ins C D.dx D.fj):=by rw [aF wb.symm]; exact ij.ins
  have a5:upd H4 D.da (.dK (a_ (D.nums++[D.nx]) (D.ts++[t]))) D.da=some (.dK (a_ (D.nums++[D.nx]) (D.ts++[t]))):=aB
  have h5:upd H4 D.da (.dK (a_ (D.nums++[D.nx]) (D.ts++[t]))) D.dh=some (.dK (cx D.nums D.hs)):=by rw [aF hD.ne.symm]; exact ij.hand
  have ME:sp≠D.da:=λz=>by rw [z,ij.ai] at sf; cases sf
  have NV:upd H4 D.da (.dK (a_ (D.nums++[D.nx]) (D.ts++[t]))) sp=some (.lst (ps.map V.ref)):=by rw [aF ME]; exact sf
  have LL:bj (upd H4 D.da (.dK (a_ (D.nums++[D.nx]) (D.ts++[t])))) ps ss:=⟨SS.len,λi p s' a b=>by
   have:=SS.at_ i p s' a b
   rw [aF (λz=>by rw [z,ij.ai] at this; cases this)]; exact this⟩
  have b5:bT x D.da D.dh H (upd H4 D.da (.dK (a_ (D.nums++[D.nx]) (D.ts++[t])))):=(bT.of AH).trans bT.a
  generalize upd H4 D.da (.dK (a_ (D.nums++[D.nx]) (D.ts++[t])))=H5 at x5 a5 h5 NV LL b5 ⊢
  refine ⟨_,rfl,x,C,D.dx,_,_,rfl,x5,T.cl,T.n2,rfl,D.da,_,rfl,.inl a5,λnp JL=>?_⟩
  dsimp only [bN]
  rw [jG (by rw [Qg,Qg,hD.tl]; rfl)]
  have s6:=aD.new (o:=.lst ((D.nums++[D.nx]).map V.int)) JL
  have FP:upd H5 np (.lst ((D.nums++[D.nx]).map V.int)) np=some (.lst ((D.nums++[D.nx]).map V.int)):=aB
  have x6:=s6 _ _ x5
  have a6:=s6 _ _ a5
  have h6:=s6 _ _ h5
  have Cm:=s6 _ _ NV
  have VO:bj (upd H5 np (.lst ((D.nums++[D.nx]).map V.int))) ps ss:=⟨LL.len,λi p s' a b=>s6 _ _ (LL.at_ i p s' a b)⟩
  have b6:=b5.trans (bT.of (x:=x) (a:=D.da) (b:=D.dh) s6)
  generalize upd H5 np (.lst ((D.nums++[D.nx]).map V.int))=H6 at s6 FP x6 a6 h6 Cm VO b6 ⊢
  have IE:np≠D.dh:=λz=>by rw [z,h6] at FP; cases FP
  have Cr:sp≠D.dh:=λz=>by rw [z,h6] at Cm; cases Cm
  have uw:(D.hs++[D.n]).length=(D.nums++[D.nx]).length:=by rw [Qg,Qg,hD.hl]; rfl
  have MZ:(D.nums++[D.nx]).Nodup:=Xj.mpr ⟨dk,by simp,λa ha b hb=>by
   have e:b=D.nx:=by simpa using hb
   rw [e]; exact λz=>kr (z ▸ ha)⟩
  refine ⟨_,rfl,sp,rfl,⟨_,au.of Cm⟩,jB (K:=K) (a:=sp) (xs:=ps.map V.ref) (λi σ H'=>∃ v5 v6 v7,σ = [some (.ref x),some (.ref t),some (.ref sp),some (.int D.nx),some (.ref np),v5,v6,v7]/\ba D.dh H6 H'/\H' D.dh=some (.dK (if i=0 then cx D.nums D.hs else cx (D.nums++[D.nx]) (d6 (D.hs++[D.n]) (ss.take i))))) ⟨none,none,none,rfl,ba.refl _ _,h6⟩ (λi σ H' _ ⟨_,_,_,_,b,_⟩=>au.of (b _ _ Cr Cm)) ?_ ?_⟩
  ·rintro i y σ H' hy ⟨v5,v6,v7,rfl,b7,h7⟩
   rw [Qi] at hy
   obtain ⟨p,hp,rfl⟩:=Qs.mp hy
   have hi:i < ss.length:=by rw [<- SS.len]; exact (Qa.mp hp).1
   obtain ⟨s',dz⟩:∃ s',ss[i]?=some s':=⟨_,Qb hi⟩
   have AY:=VO.at_ i p s' hp dz
   have BQ:=b7 _ _ (λz=>by rw [z,h6] at AY; cases AY) AY
   have x7:=b7 _ _ ue.symm x6
   have IA:=b7 _ _ IE FP
   have ed:=gW PT s' (Qe dz)
   have fw:s'.1 < (D.nums++[D.nx]).length:=by rw [<- uw]; exact (Qa.mp ed.1).1
   obtain ⟨key,jo⟩:∃ key,(D.nums++[D.nx])[s'.1]?=some key:=⟨_,Qb fw⟩
   refine ⟨p,_,rfl,aq.of BQ,rfl,_,_,rfl,_,_,rfl,_,_,rfl,rfl,?_⟩
   dsimp only [bN]
   refine ⟨_,rfl,_,rfl,x,C,D.dx,_,_,rfl,x7,T.cl,T.n3,rfl,_,rfl,_,rfl,np,_,(s'.1:Int),.int key,rfl,rfl,au.of IA,?_,D.dh,_,rfl,qF.k (k:=.inl key) h7 ?_,?_⟩
   ·show qj _ _=_
    exact gA (by rw [Qi,jo]; rfl)
   ·refine sz _ ?_
    by_cases c:i=0
    ·rw [if_pos c,oC hD.hl]; omega
    ·rw [if_neg c,oC (by rw [kK]; exact uw),Qg]
     show D.nums.length+1 < 1000
     omega
   ·refine ⟨_,_,_,rfl,b7.trans ba.at,?_⟩
    rw [aB,if_neg (Nat.succ_ne_zero i),VC _ dz]
    by_cases c:i=0
    ·subst c
     rw [if_pos rfl]
     have eg:s'.2.1=D.n:=by
      cases ss with
      | nil=>simp at dz
      | cons s0 ss =>
       have e:s0=s':=by simpa using dz
       rw [<- e]; exact PT.1
     have ew:s'.1=D.hs.length:=by
      by_cases d:s'.1 < D.hs.length
      ·have:=ed.1
       rw [Qn d] at this
       have:=zp _ (Qe this)
       omega
      ·rw [Qg] at fw
       have:s'.1 < D.nums.length+1:=fw
       have:=hD.hl
       omega
     have ek:key=D.nx:=by
      rw [ew,hD.hl,Qr (Qh _),Jy] at jo
      simpa using jo.symm
     rw [ek,Ym]
     show some (HO.dK (eQ (cx D.nums D.hs) (.inl D.nx) (.int s'.2.2)))=some (.dK (cx (D.nums++[D.nx]) ((D.hs++[D.n]).set s'.1 s'.2.2)))
     rw [ew,aEv,aEu hD.hl]
     exact congrArg (λz=>some (HO.dK z)) (jW _ (iT kr))
    ·rw [if_neg c]
     exact congrArg (λz=>some (HO.dK z)) (VD MZ (by rw [kK]; exact uw) jo)
  ·rintro σ H7 ⟨v5,v6,v7,rfl,b7,h7⟩
   have sl:(ps.map V.ref).length=ss.length:=by rw [Qd,SS.len]
   rw [sl,if_neg (by intro z; exact NE (Zn.mp z)),Jr] at h7
   have x7:=b7 _ _ ue.symm x6
   have a7:=b7 _ _ hD.ne a6
   have C9:=b7 _ _ Cr Cm
   have KW:bT x D.da D.dh H H7:=b6.trans λc u _ _ h3 hu=>b7 _ _ h3 hu
   refine ⟨_,rfl,x,C,D.dx,_,_,rfl,x7,T.cl,T.n4,rfl,_,_,rfl,rfl,D.dx,_,x7,(show (6:Nat) < 1000 by decide),?_⟩
   refine ⟨_,rfl,x,D.dx,_,rfl,aB,rfl,_,rfl,sp,_,rfl,.inl (au.of (by rw [aF (λz=>by rw [z,x7] at C9; cases C9)]; exact C9)),_,_,rfl,rfl,x,{ D with nx:=D.nx+1 },(ss.length:Int) - 1,?_,aB,?_⟩
   ·rw [sl]; rfl
   rw [kG]
   refine ⟨_,rfl,?_⟩
   have D9:bT x D.da D.dh H (upd H7 x (.ins C D.dx (D.put l t (d6 (D.hs++[D.n]) ss) ((ss.length:Int) - 1)).fj)):=KW.trans bT.x
   have lr:=mw last x_ ya
   have ld:∀ o:Int,0<=o->o < D.n->(bS D.n D.hs).getD o.toNat 0=((D.hs.count o:Nat):Int):=λo h1 h2=>by
    rw [Xm,iS (by omega),show ((o.toNat:Nat):Int)=o by omega]; rfl
   obtain ⟨lv,L⟩:=hM.lv
   obtain ⟨⟨xq,L'⟩,BJ⟩:=aHf L jz zp (λl' jt=>(bA (fg l' jt)).2.1) l1 ox PT ND NE CL yu (λo ho gx=>by
    have q:=mw o ho gx
    rw [ld _ lr.1 lr.2.1,ld _ q.1 q.2.1] at q
    exact q) x_ ya F4
   have uu:(d6 (D.hs++[D.n]) ss).length=D.nums.length+1:=by rw [kK,uw,Qg]; rfl
   refine k (d6 (D.hs++[D.n]) ss) ((ss.length:Int) - 1) ss last _ D9 ⟨PT,ND,NE,rfl,rfl⟩ ⟨aB,(aF wb).trans a7,(aF ue).trans h7,?_,?_,?_,λi t' l' q1 q2=>?_,hD.ne⟩ ⟨?_,?_,?_,?_,?_,xq,L'⟩
   ·show (D.ts++[t]).length=(D.nums++[D.nx]).length
    rw [Qg,Qg,hD.tl]; rfl
   ·show (D.ws++[l]).length=(D.nums++[D.nx]).length
    rw [Qg,Qg,hD.wl]; rfl
   ·show (d6 (D.hs++[D.n]) ss).length=(D.nums++[D.nx]).length
    rw [uu,Qg]; rfl
   ·refine D9.ah hD.ins hD.ai hD.hand ?_
    have k_:(D.ts++[t])[i]?=some t':=q1
    have xo:(D.ws++[l])[i]?=some l':=q2
    by_cases c:i < D.ts.length
    ·rw [Qn c] at k_
     rw [Qn (by rw [hD.wl,<- hD.tl]; exact c)] at xo
     exact hD.tup i t' l' k_ xo
    ·have ci:i=D.ts.length:=by
      have:=(Qa.mp k_).1
      rw [Qg] at this
      have:i < D.ts.length+1:=this
      omega
     have cw:D.ts.length=D.ws.length:=by rw [hD.tl,hD.wl]
     rw [ci,Qr (Qh _),Jy] at k_
     rw [ci,cw,Qr (Qh _),Jy] at xo
     have e1:t=t':=by simpa using k_
     have e2:l=l':=by simpa using xo
     rw [<- e1,<- e2]; exact ht
   ·refine iZ iu gh ?_ λl' jt=>?_
    ·show (D.ws++[l]).length<=12
     rw [Qg,hD.wl]
     show D.nums.length+1<=12
     omega
    ·have mn:l'∈D.ws++[l]:=jt
     rcases Jg.mp mn with z | z
     ·exact fg l' z
     ·rw [show l'=l by simpa using z]; exact mj
   ·refine yZ ?_ BJ
    show (d6 (D.hs++[D.n]) ss).length=(D.ws++[l]).length
    rw [uu,Qg,hD.wl]; rfl
   ·show (D.nums++[D.nx]).Pairwise (· < ·)
    refine Zf.mpr ⟨hM.up,Yw _ _,λa ha b hb=>?_⟩
    rw [show b=D.nx by simpa using hb]
    exact (hM.j2 a ha).2
   ·intro k' qe
    have we:k'∈D.nums++[D.nx]:=qe
    show 0<=k'/\k' < D.nx+1
    have n0:=hM.nx
    rcases Jg.mp we with z | z
    ·have:=hM.j2 k' z
     omega
    ·rw [show k'=D.nx by simpa using z]; omega
   ·have:=hM.nx
    show 0<=D.nx+1
    omega
def DD.take (D:DD) (k:Nat) (ss:List (Nat×Int×Int)):DD:={ D with ml:=(ss.length:Int),ma:=D.ma+(ss.length:Int),nums:=D.nums.eraseIdx k,ws:=D.ws.eraseIdx k,hs:=(d6 D.hs ss).eraseIdx k,ts:=D.ts.eraseIdx k }
def SI (K:Rb) (C:Addr):Sp:=λvs H Q _=>∃ (x:Addr) (D:DD) (num:Int) (k:Nat) (last:Int),vs = [.ref x,.int num]/\ft K H C x D/\km D/\D.nums[k]?=some num/\D.hs[k]?=some last /\
 ∀ ss H',bT x D.da D.dh H H'->sH D.n D.ws D.hs last D.n ss->ft K H' C x (D.take k ss)->km (D.take k ss)->Q .br H'
theorem pN:af ["self", "number", "numbers", "steps", "work", "giver", "taker"] ["self", "number"] (aI uV):=.of
set_option maxHeartbeats 1000000 in
theorem aFQ {DZ QQ Bi:Addr} {D8 Q_ Bm:FuncData} (G:Mt K C "take" uV ["self", "number"] f fd) (T:Dc K C) (B:Bl mg) (C0:Fn K mg "is_whole" lT ["thing"] DZ D8) (Er:ae P w K mg base ao 1 DZ D8 ["thing"] (lW K)) (GB:Mt K C "book_now" uU ["self"] z_ Ad) (OB:ae P w K mg base ao 1 z_ Ad ["self"] (qT K C)) (GD:Mt K C "deal_now" nC ["self"] zz Ac) (OD:ae P w K mg base ao 1 zz Ac ["self"] (oA K C)) (GTk:Fn K mg "steps_of_take" qL ["book", "deal", "work"] QQ Q_) (OTk:ae P w K mg base ao 2 QQ Q_ ["book", "deal", "work"] (zG K)) (EF:Mt K C "count_moved" nD ["self", "many"] Bi Bm) (Am:ae P w K mg base ao 1 Bi Bm ["self", "many"] (oB K C)):ae P w K mg base ao 3 f fd ["self", "number"] (SI K C):=by
 refine G.fn.oK pN λbg A outer s H vs Q E hr h=>?_
 ·obtain ⟨x,D,num,kk,last,rfl,hD,hM,cm,g9,k⟩:=h
  have r2:aj 2 _:=hr
  have r1:aj 1 _:=hr.mono (by decide)
  refine ⟨_,aE (bI (PW.pt (fZ (bV (bL (aW C0 Er r1 rfl (aA (pv 1) aC)))) (eV (rA (nQ (bU hr) (pv 1) (cL (pv 0) rfl)) (by with_unfolding_all rfl))))) dY aS)
   (aE (aX (i:=2) pN.nd rfl (Or.inl rfl) (cR (jL rfl) rfl B.list pE (aA (cL (pv 0) rfl) aC)))
   (aE (aX (i:=3) pN.nd rfl (Or.inl rfl) (aW GTk OTk r2 rfl (aA (cV (pv 0) T.cl GB.me OB r1 GB.bd .nil gH) (aA (cV (pv 0) T.cl GD.me OD r1 GD.bd .nil gH) (aA (kI Rh Ub Iq aCS (pv 2) (aA (pv 1) aC)) aC)))))
   (aE (hV PassesOwn.never rfl (hU (pv 3)) (oW rfl (dJ (aV (i:=4) pN.nd rfl (Or.inl rfl)) (dJ (aV (i:=5) pN.nd rfl (Or.inl rfl)) (dJ (aV (i:=6) pN.nd rfl (Or.inl rfl)) lO))))
    (aJ (iY (bU hr) (cL (pv 0) rfl) (bM cM (pv 2) (pv 4) (λ_ _=>rfl)) (pv 6) rfl)))
   (aE (cK (uM (cL (pv 0) rfl) (pv 1) ⟨rfl,rfl,rfl,rfl⟩))
   (aE (cK (uM (cL (pv 0) rfl) (pv 1) ⟨rfl,rfl,rfl,rfl⟩))
   (aJ (cK (kH (pv 0) T.cl EF.me Am r1 EF.bd .nil gH (aA (aL bB rfl B.len eP (aA (pv 3) aC)) aC))))))))),?_⟩
  obtain ⟨iu,gh,cz,fg⟩:=aZ hM.bk
  obtain ⟨jz,ox⟩:=eZ hM.dl
  have zp:∀ g∈D.hs,0<=g/\g < D.n:=λg hg=>by
   obtain ⟨i,hi⟩:=Qv.mp hg
   have hl:=Qb (show i < D.ws.length by rw [<- jz]; exact (Qa.mp hi).1)
   exact (bA (fg _ (Qe hl))).2.1 g (ox i _ _ hi hl)
  have dk:D.nums.Nodup:=Jd.mpr (hM.up.imp λh=>Jz h)
  have sz:∀ n:Nat,n < 1000->n < sizeLine:=λn h=>Yg h (by decide +kernel)
  have i9:D.nums.length<=12:=by rw [<- hD.wl]; exact cz
  obtain ⟨t0,qz⟩:∃ t0,D.ts[kk]?=some t0:=⟨_,Qb (by rw [hD.tl]; exact (Qa.mp cm).1)⟩
  have va:bW (a_ D.nums D.ts) (.inl num)=some (.ref t0):=cJ dk cm qz
  refine ⟨_,rfl,.int num,.int num,rfl,cF.mpr rfl,_,rfl,bJ rfl ?_⟩
  refine ⟨_,rfl,_,rfl,x,C,D.dx,_,_,rfl,hD.ins,T.cl,T.n2,rfl,D.da,_,rfl,kF.k (k:=.inl num) hD.ai,_,rfl,bJ (by rw [va]; rfl) ?_⟩
  refine ⟨_,rfl,x,C,D.dx,_,_,rfl,hD.ins,T.cl,T.n2,rfl,D.da,_,rfl,.inl hD.ai,λnp JL=>?_⟩
  dsimp only [bN]
  rw [jG hD.tl]
  have s1:=aD.new (o:=.lst (D.nums.map V.int)) JL
  have Oh:upd H np (.lst (D.nums.map V.int)) np=some (.lst (D.nums.map V.int)):=aB
  generalize upd H np (.lst (D.nums.map V.int))=H1 at s1 Oh ⊢
  have oz:=hD.same s1
  refine ⟨_,rfl,x,D.dx,_,rfl,oz.ins,rfl,x,D,rfl,oz,λbp H2 s2 CH=>?_⟩
  have Gp:=oz.same s2
  refine ⟨_,rfl,x,D.dx,_,rfl,Gp.ins,rfl,x,D,rfl,Gp,λdp H3 s3 fe=>?_⟩
  have Co:=s2.trans s3
  have IC:=Co _ _ Oh
  refine ⟨_,rfl,.inl ⟨rfl,_,au.of IC⟩,_,rfl,np,D.nums,num,kk,rfl,rfl,au.of IC,cm,λm hm sx=>Qy hm (xJ dk sx cm),?_⟩
  refine ⟨.ref bp,.ref dp,D.n,D.ws,D.hs,kk,last,rfl,⟨s3.den _ _ CH,hM.bk,cU.mpr ⟨dp,rfl,aq.of fe⟩,hM.dl⟩,g9,λsp H4 ps ss s4 X8 sf SS TK=>?_⟩
  dsimp only [bN]
  have AH:=s1.trans (Co.trans s4)
  have ij:=hD.same AH
  have IB:=s4 _ _ IC
  have wb:D.da≠x:=λz=>by have:=ij.ai; rw [z,ij.ins] at this; cases this
  have ue:D.dh≠x:=λz=>by have:=ij.hand; rw [z,ij.ins] at this; cases this
  have mi:sp≠D.da:=λz=>by rw [z,ij.ai] at sf; cases sf
  have Cr:sp≠D.dh:=λz=>by rw [z,ij.hand] at sf; cases sf
  have nsx:sp≠x:=λz=>by rw [z,ij.ins] at sf; cases sf
  have IE:np≠D.dh:=λz=>by rw [z,ij.hand] at IB; cases IB
  have key:∀ (i:Nat) (s':Nat×Int×Int),ss[i]?=some s'->s'.1 < D.hs.length:=λi s' h=>by
   rcases TK with ⟨e,_⟩ | ⟨h0,_,p,_⟩
   ·subst e; simp at h
   ·exact (Qa.mp (gW p s' (Qe h)).1).1
  refine ⟨_,rfl,sp,rfl,⟨_,au.of sf⟩,jB (K:=K) (a:=sp) (xs:=ps.map V.ref) (λi σ H'=>∃ v5 v6 v7,σ = [some (.ref x),some (.int num),some (.ref np),some (.ref sp),v5,v6,v7]/\ba D.dh H4 H'/\H' D.dh=some (.dK (cx D.nums (d6 D.hs (ss.take i))))) ⟨none,none,none,rfl,ba.refl _ _,ij.hand⟩ (λi σ H' _ ⟨_,_,_,_,b,_⟩=>au.of (b _ _ Cr sf)) ?_ ?_⟩
  ·rintro i y σ H' hy ⟨v5,v6,v7,rfl,b7,h7⟩
   rw [Qi] at hy
   obtain ⟨p,hp,rfl⟩:=Qs.mp hy
   have hi:i < ss.length:=by rw [<- SS.len]; exact (Qa.mp hp).1
   obtain ⟨s',dz⟩:∃ s',ss[i]?=some s':=⟨_,Qb hi⟩
   have AY:=SS.at_ i p s' hp dz
   have BQ:=b7 _ _ (λz=>by rw [z,ij.hand] at AY; cases AY) AY
   have x7:=b7 _ _ ue.symm ij.ins
   have IA:=b7 _ _ IE IB
   have fw:=key i s' dz
   rw [hD.hl] at fw
   obtain ⟨yp,jo⟩:∃ yp,D.nums[s'.1]?=some yp:=⟨_,Qb fw⟩
   refine ⟨p,_,rfl,aq.of BQ,rfl,_,_,rfl,_,_,rfl,_,_,rfl,rfl,?_⟩
   dsimp only [bN]
   refine ⟨_,rfl,_,rfl,x,C,D.dx,_,_,rfl,x7,T.cl,T.n3,rfl,_,rfl,_,rfl,np,_,(s'.1:Int),.int yp,rfl,rfl,au.of IA,?_,D.dh,_,rfl,qF.k (k:=.inl yp) h7 ?_,?_⟩
   ·show qj _ _=_
    exact gA (by rw [Qi,jo]; rfl)
   ·refine sz _ ?_
    rw [oC (by rw [kK]; exact hD.hl)]; omega
   ·refine ⟨_,_,_,rfl,b7.trans ba.at,?_⟩
    rw [aB,VC _ dz]
    exact congrArg (λz=>some (HO.dK z)) (VD dk (by rw [kK]; exact hD.hl) jo)
  ·rintro σ H7 ⟨v5,v6,v7,rfl,b7,h7⟩
   have sl:(ps.map V.ref).length=ss.length:=by rw [Qd,SS.len]
   rw [sl,Jr] at h7
   have x7:=b7 _ _ ue.symm ij.ins
   have a7:=b7 _ _ hD.ne ij.ai
   have C9:=b7 _ _ Cr sf
   have KW:bT x D.da D.dh H H7:=(bT.of AH).trans λc u _ _ h3 hu=>b7 _ _ h3 hu
   have uu:(d6 D.hs ss).length=D.nums.length:=by rw [kK]; exact hD.hl
   obtain ⟨g0,O3⟩:∃ g0,(d6 D.hs ss)[kk]?=some g0:=⟨_,Qb (by rw [uu]; exact (Qa.mp cm).1)⟩
   have vh:bW (cx D.nums (d6 D.hs ss)) (.inl num)=some (.int g0):=cJ dk cm O3
   have da:qB (a_ D.nums D.ts) (.inl num)=a_ (D.nums.eraseIdx kk) (D.ts.eraseIdx kk):=qU dk hD.tl cm
   have dh:qB (cx D.nums (d6 D.hs ss)) (.inl num)=cx (D.nums.eraseIdx kk) ((d6 D.hs ss).eraseIdx kk):=qU dk uu cm
   refine ⟨_,rfl,x,C,D.dx,_,_,rfl,x7,T.cl,T.n2,rfl,D.da,rfl,.inl ⟨_,.inl a7⟩,_,rfl,_,.inl num,_,a7,rfl,va,?_⟩
   rw [da]
   have x8:upd H7 D.da (.dK (a_ (D.nums.eraseIdx kk) (D.ts.eraseIdx kk))) x=some (.ins C D.dx D.fj):=(aF wb.symm).trans x7
   have h8:upd H7 D.da (.dK (a_ (D.nums.eraseIdx kk) (D.ts.eraseIdx kk))) D.dh=some (.dK (cx D.nums (d6 D.hs ss))):=(aF hD.ne.symm).trans h7
   have a8:upd H7 D.da (.dK (a_ (D.nums.eraseIdx kk) (D.ts.eraseIdx kk))) D.da=some (.dK (a_ (D.nums.eraseIdx kk) (D.ts.eraseIdx kk))):=aB
   have NU:upd H7 D.da (.dK (a_ (D.nums.eraseIdx kk) (D.ts.eraseIdx kk))) sp=some (.lst (ps.map V.ref)):=(aF mi).trans C9
   have D9:bT x D.da D.dh H (upd H7 D.da (.dK (a_ (D.nums.eraseIdx kk) (D.ts.eraseIdx kk)))):=KW.trans bT.a
   generalize upd H7 D.da (.dK (a_ (D.nums.eraseIdx kk) (D.ts.eraseIdx kk)))=H8 at x8 h8 a8 NU D9 ⊢
   refine ⟨_,rfl,x,C,D.dx,_,_,rfl,x8,T.cl,T.n3,rfl,D.dh,rfl,.inl ⟨_,.inl h8⟩,_,rfl,_,.inl num,_,h8,rfl,vh,?_⟩
   rw [dh]
   have x9:upd H8 D.dh (.dK (cx (D.nums.eraseIdx kk) ((d6 D.hs ss).eraseIdx kk))) x=some (.ins C D.dx D.fj):=(aF ue.symm).trans x8
   have a9:upd H8 D.dh (.dK (cx (D.nums.eraseIdx kk) ((d6 D.hs ss).eraseIdx kk))) D.da=some (.dK (a_ (D.nums.eraseIdx kk) (D.ts.eraseIdx kk))):=(aF hD.ne).trans a8
   have h9:upd H8 D.dh (.dK (cx (D.nums.eraseIdx kk) ((d6 D.hs ss).eraseIdx kk))) D.dh=some (.dK (cx (D.nums.eraseIdx kk) ((d6 D.hs ss).eraseIdx kk))):=aB
   have NS:upd H8 D.dh (.dK (cx (D.nums.eraseIdx kk) ((d6 D.hs ss).eraseIdx kk))) sp=some (.lst (ps.map V.ref)):=(aF Cr).trans NU
   have KU:bT x D.da D.dh H (upd H8 D.dh (.dK (cx (D.nums.eraseIdx kk) ((d6 D.hs ss).eraseIdx kk)))):=D9.trans bT.b
   generalize upd H8 D.dh (.dK (cx (D.nums.eraseIdx kk) ((d6 D.hs ss).eraseIdx kk)))=H9 at x9 h9 a9 NS KU ⊢
   refine ⟨_,rfl,x,D.dx,_,rfl,x9,rfl,_,rfl,sp,_,rfl,.inl (au.of NS),x,D,(ss.length:Int),?_,x9,?_⟩
   ·rw [sl]; rfl
   obtain ⟨lv,L⟩:=hM.lv
   obtain ⟨⟨xq,L'⟩,BJ⟩:=aFK L g9 zp ox TK
   refine k ss _ (KU.trans bT.x) TK ⟨aB,(aF wb).trans a9,(aF ue).trans h9,?_,?_,?_,λi t' l' q1 q2=>?_,hD.ne⟩ ⟨?_,?_,?_,?_,hM.nx,xq,L'⟩
   ·show (D.ts.eraseIdx kk).length=(D.nums.eraseIdx kk).length
    rw [Jf,Jf,hD.tl]
   ·show (D.ws.eraseIdx kk).length=(D.nums.eraseIdx kk).length
    rw [Jf,Jf,hD.wl]
   ·show ((d6 D.hs ss).eraseIdx kk).length=(D.nums.eraseIdx kk).length
    rw [Jf,Jf,uu]
   ·exact (KU.trans bT.x).ah hD.ins hD.ai hD.hand (hD.tup _ t' l' (fJ q1) (fJ q2))
   ·refine iZ iu gh (Ja (Yx ..) cz) λl' jt=>fg l' (Xs jt)
   ·refine yZ ?_ λj h l q1 q2=>BJ _ h l (fJ q1) (fJ q2)
    show ((d6 D.hs ss).eraseIdx kk).length=(D.ws.eraseIdx kk).length
    rw [Jf,Jf,uu,hD.wl]
   ·exact hM.up.sublist (Wh ..)
   ·exact λk' qe=>hM.j2 k' (Xs qe)
end Ab
namespace L2
open PySem
theorem aFR {l:Expr} (hK:X.K=K) (hl:PE X l tl):PI X tg l (R8 K tl):=by subst hK; exact oX hl
theorem aFS {f:Str} (hK:X.K=K) (he:PE X e ta) (hb:attributeBase e f X.env (eval e X.env)=eval e X.env):PE X (.Attribute e f pos) (R0 K ta f):=by subst hK; exact cL he hb
end L2
namespace Ab
open PySem L2
def vL (K:Rb) (C:Addr):Sp:=λvs H Q _=>∃ (x:Addr) (D:DD),vs = [.ref x]/\ft K H C x D/\km D /\
 ∀ p ts H',aD H H'->H p=none->H' p=some (.dK (a_ D.nums ts))->ts.length=D.nums.length->(∀ (i:Nat) t l,ts[i]?=some t->D.ws[i]?=some l->aq K H' t (l.map V.int))->Q (.ref p) H'
def aFT:Scope:={ kind:=.function,names:=[(".0",.local),("number",.local),("tuple",.globalImplicit),("self",.free)],isGenerator:=false,isCoroutine:=false }
theorem aEx:af ["self"] ["self"] (aI pG):=.of
set_option maxHeartbeats 1000000 in
theorem aC7 (G:Mt K C "works" pG ["self"] f fd) (T:Dc K C) (B:Bl mg):ae P w K mg base ao 1 f fd ["self"] (vL K C):=by
 refine G.fn.oK aEx λbg A outer s H vs Q E hr h=>?_
 ·obtain ⟨x,D,rfl,hD,hM,k⟩:=h
  refine ⟨_,aJ (aR (aC0 (own:=["number"]) (fr:=[0]) (bo:=["self"]) (bK (aI pG) ["self"] rfl rfl (by decide +kernel)) rfl (cL (pv 0) rfl)
   (λ_ _ _ _=>(aV (i:=0) (show (["number", "self"]:List Str).Nodup by decide +kernel) rfl (Or.inl rfl))) (λ_ _ _ _=>eM)
   (λ_ _ _ _=>pv 0)
   (λ_ _ _ _=>cR (vB (K:=K) rfl) rfl B.tuple gE (aA (gD (own:=["hand"]) (fr:=[]) (bo:=[]) (bK (S? aFT (aI pG)) ["number", "self"] rfl rfl (by decide +kernel)) rfl (aFR (K:=K) rfl (aQ (bU hr) (aFS (K:=K) rfl (pv 1) rfl) (pv 0) (λ_ _=>rfl)))
    (λ_ _ _ _=>(aV (i:=0) (show (["hand"]:List Str).Nodup by decide +kernel) rfl (Or.inl rfl))) (λ_ _ _ _=>eM)
    (λ_ _ _ _=>pv 0)) aC)))),?_⟩
  obtain ⟨iu,gh,cz,fg⟩:=aZ hM.bk
  have dk:D.nums.Nodup:=Jd.mpr (hM.up.imp λh=>Jz h)
  have i9:D.nums.length<=12:=by rw [<- hD.wl]; exact cz
  refine ⟨_,rfl,x,C,D.dx,_,_,rfl,hD.ins,T.cl,T.n2,rfl,D.da,_,rfl,hD.ai,λo=>?_⟩
  have z2:upd H D.da (.bq o (.dK (a_ D.nums D.ts))) D.da=some (.bq o (.dK (a_ D.nums D.ts))):=aB
  have b2:ba D.da H (upd H D.da (.bq o (.dK (a_ D.nums D.ts)))):=ba.at
  have back:∀ {H2:Hp} {c:Addr} {u:HO},aD (upd H D.da (.bq o (.dK (a_ D.nums D.ts)))) H2->c≠D.da->H c=some u->H2 c=some u:=λs hc hu=>s _ _ (b2 _ _ hc hu)
  have lh:(a_ D.nums D.ts).length=D.nums.length:=gS hD.tl
  have wb:D.da≠x:=λz=>by have:=hD.ai; rw [z,hD.ins] at this; cases this
  generalize hHf:upd H D.da (.bq o (.dK (a_ D.nums D.ts)))=Hf at z2 b2 back
  refine aD6 (a:=D.da) (o:=o) (kvs:=a_ D.nums D.ts) (λσ=>∃ u,σ = [u,some (.ref x)]) (λi ys H2=>aD Hf H2/\∃ l_,ys=a_ (D.nums.take i) l_/\l_.length=(D.nums.take i).length/\∀ (j:Nat) t l,l_[j]?=some t->D.ws[j]?=some l->aq K H2 t (l.map V.int)) (iI (by omega)) ⟨none,rfl⟩ ⟨aD.refl _,[],rfl,rfl,λj t l h=>by simp at h⟩ (λi ys H2 h=>by
   obtain ⟨_,l_,e,l,_⟩:=h
   rw [e,gS l,Ji]; omega) (λi ys H2 h=>h.1 _ _ z2) ?_ ?_
  ·rintro i ys σ kv H2 ie ⟨u,rfl⟩ ⟨s2,l_,rfl,uk,AX⟩ hz
   obtain ⟨num,t,cm,ht,rfl⟩:∃ num t,D.nums[i]?=some num/\D.ts[i]?=some t/\kv=(.inl num,.ref t):=by
    unfold a_ at ie
    rw [Qi] at ie
    obtain ⟨p,hp,e⟩:=Qs.mp ie
    rw [Je] at hp
    exact ⟨p.1,p.2,hp.1,hp.2,e.symm⟩
   have hi:i < D.nums.length:=(Qa.mp cm).1
   obtain ⟨l,hl⟩:∃ l,D.ws[i]?=some l:=⟨_,Qb (by rw [hD.wl]; exact hi)⟩
   have j9:=s2.ah (b2.iw hD.ai (hD.tup i t l ht hl))
   have ur:=(bA (fg l (Qe hl)))
   have ll:l.length<=1000:=by
    have:=iR (by omega) ur.2.1 ur.2.2
    omega
   refine cQ ?_
   refine ⟨_,rfl,_,rfl,x,C,D.dx,_,_,rfl,back s2 wb.symm hD.ins,T.cl,T.n2,rfl,_,rfl,D.da,.ref t,rfl,.inl ⟨_,.inl num,.inr ⟨o,s2 _ _ z2⟩,rfl,(cJ dk cm ht).symm⟩,t,rfl,⟨_,j9⟩,uB (K:=K) (a:=t) (xs:=l.map V.int) (vs:=l.map V.int) (λσ=>∃ v,σ = [v]) (by rw [Qd]; exact ll) rfl j9 ⟨none,rfl⟩ ?_ ?_⟩
   ·rintro j y v σ H3 h1 h2 ⟨v0,rfl⟩ s3 Q' hq
    rw [h1] at h2
    cases h2
    exact ⟨_,rfl,hq _ _ ⟨_,rfl⟩ (aD.refl _)⟩
   ·intro H3 s3 pc gj
    refine ⟨pc,_,rfl,.inl ⟨au.of aB,λtp Dt=>?_⟩⟩
    have s4:=(s3.trans (aD.new (o:=.lst (l.map V.int)) gj)).trans (aD.new (o:=.tup (l.map V.int)) Dt)
    have D3:upd (upd H3 pc (.lst (l.map V.int))) tp (.tup (l.map V.int)) tp=some (.tup (l.map V.int)):=aB
    generalize upd (upd H3 pc (.lst (l.map V.int))) tp (.tup (l.map V.int))=H4 at s4 D3 ⊢
    have Kz:D.nums.take (i+1)=D.nums.take i++[num]:=by
     obtain ⟨_,e⟩:=Qa.mp cm
     rw [Xb hi,e]
    have kr:num∉D.nums.take i:=λz=>by
     rw [<- Zv (i+1) D.nums,Kz] at dk
     exact (Xj.mp (Xj.mp dk).1).2.2 num z num (by simp) rfl
    refine ⟨.inl num,rfl,hz,⟨_,rfl⟩,s2.trans s4,l_++[tp],?_,?_,λj t' l' q1 q2=>?_⟩
    ·rw [Kz,vK uk]
     exact jW _ (iT kr)
    ·rw [Kz,Qg,Qg,uk]; rfl
    ·have lt:l_.length=i:=by rw [uk,Ji]; omega
     by_cases c:j < l_.length
     ·rw [Qn c] at q1
      exact s4.ah (AX j t' l' q1 q2)
     ·have cj:j=l_.length:=by
       have:=(Qa.mp q1).1
       rw [Qg] at this
       have:j < l_.length+1:=this
       omega
      rw [cj,Qr (Qh _),Jy] at q1
      have e1:tp=t':=by simpa using q1
      rw [cj,lt,hl] at q2
      rw [<- e1,<- Option.some.inj q2]
      exact aq.of D3
  ·rintro ys H2 ⟨s2,l_,rfl,uk,AX⟩ p hp
   rw [lh,Jr] at uk ⊢
   have AM:p≠D.da:=λz=>by rw [z,s2 _ _ z2] at hp; cases hp
   have OV:H p=none:=by
    cases e:H p with
    | none=>rfl
    | some u=>rw [back s2 AM e] at hp; cases hp
   have s5:aD H (upd (upd H2 p (.dK (a_ D.nums l_))) D.da (.dK (a_ D.nums D.ts))):=λc u hc=>by
    by_cases d:c=D.da
    ·rw [d] at hc ⊢
     rw [aB,<- hD.ai]; exact hc
    ·have n2:c≠p:=λz=>by rw [z,OV] at hc; cases hc
     rw [aF d,aF n2]; exact back s2 d hc
   refine k p l_ _ s5 OV (by rw [aF AM,aB]) uk λj t l q1 q2=>?_
   have q3:=(aD.new (o:=.dK (a_ D.nums l_)) hp).ah (AX j t l q1 q2)
   have q4:upd H2 p (.dK (a_ D.nums l_)) D.da=some (.bq o (.dK (a_ D.nums D.ts))):=(aD.new hp) _ _ (s2 _ _ z2)
   generalize upd H2 p (.dK (a_ D.nums l_))=H3 at q3 q4 ⊢
   rcases q3 with (q | ⟨o',q⟩) | q
   ·exact .inl (.inl (by rw [aF (λz=>by rw [z,q4] at q; cases q)]; exact q))
   ·exact .inl (.inr ⟨o',by rw [aF (λz=>by rw [z,q4] at q; cases q)]; exact q⟩)
   ·exact .inr q
def DD.begun (n:Int) (dx da dh:Addr):DD:=⟨n,0,0,0,[],[],[],dx,da,dh,[]⟩
theorem aFU {n:Int} {da dh:Addr} (h1:1<=n) (h2:n<=6):km (DD.begun n dx da dh) :=
 ⟨iZ h1 h2 (Jt _) λl hl=>(Qt hl).elim,yZ rfl λj h l q=>by simp [DD.begun] at q,List.Pairwise.nil,λk hk=>(Qt hk).elim,Zi _,λ_=>0,λh _ _=>by simp [DD.begun],λw g l q=>by simp [DD.begun] at q⟩
def SG (K:Rb) (C:Addr):Sp:=λvs H Q _=>∃ (x dx:Addr) (n:Int),vs = [.ref x,.int n]/\H x=some (.ins C dx [])/\1<=n/\n<=6 /\
 ∀ da dh H',ba x H H'->H da=none->H dh=none->ft K H' C x (DD.begun n dx da dh)->Q .br H'
theorem SF:af ["self", "hands"] ["self", "hands"] (aI uT):=.of
theorem aFV (G:Mt K C "__init__" uT ["self", "hands"] f fd) (T:Dc K C) (B:Bl mg) (GH:Fn K mg "are_hands" pH ["thing"] fH dH) (OH:ae P w K mg base ao 2 fH dH ["thing"] (qP K)):ae P w K mg base ao 3 f fd ["self", "hands"] (SG K C):=by
 refine G.fn.oK SF λbg A outer s H vs Q E hr h=>?_
 ·obtain ⟨x,dx,n,rfl,hx,h1,h6,k⟩:=h
  have r2:aj 2 _:=hr
  refine ⟨_,aE (bI (bV (bL (aW GH OH r2 rfl (aA (pv 1) aC)))) dY aS)
   (aE (pA (pv 0) (pv 1) rfl) (aE (pA (pv 0) jX rfl) (aE (pA (pv 0) jX rfl) (aE (pA (pv 0) aH rfl) (aE (pA (pv 0) aH rfl) (aJ (pA (pv 0) aH rfl))))))),?_⟩
  have lt:∀ n:Nat,n<=6->n < 1000:=λn h=>by omega
  refine ⟨_,rfl,.int n,.int n,rfl,cF.mpr rfl,_,rfl,bJ ?_ ?_⟩
  ·show (!(eK (.int n)))=false
   rw [show eK (.int n)=true by simp [eK]; omega]; rfl
  refine ⟨_,rfl,_,rfl,x,C,dx,_,rfl,hx,T.cl,T.n1,lt 0 (by decide),λda wj=>⟨_,rfl,x,C,dx,_,rfl,(aD.new wj) _ _ aB,T.cl,T.n2,lt 1 (by decide),λdh tj=>⟨_,rfl,x,C,dx,_,rfl,(aD.new tj) _ _ aB,T.cl,T.n3,lt 2 (by decide),?_⟩⟩⟩
  refine ⟨_,rfl,x,C,dx,_,rfl,aB,T.cl,T.n4,lt 3 (by decide),_,rfl,x,C,dx,_,rfl,aB,T.cl,T.n5,lt 4 (by decide),_,rfl,x,C,dx,_,rfl,aB,T.cl,T.n6,lt 5 (by decide),?_⟩
  rw [kG,kG,kG]
  have FR:da≠x:=λz=>by rw [z,aB] at wj; cases wj
  have IG:dh≠x:=λz=>by rw [z,aB] at tj; cases tj
  have IH:da≠dh:=λz=>by rw [<- z,aF FR,aB] at tj; cases tj
  have E5:H da=none:=by rw [aF FR] at wj; exact wj
  have EZ:H dh=none:=by rw [aF IG,aF IH.symm,aF IG] at tj; exact tj
  refine k da dh _ (λc u hc hu=>?_) E5 EZ ⟨aB,?_,?_,rfl,rfl,rfl,λi t l q=>by simp [DD.begun] at q,IH⟩
  ·have n1:c≠da:=λz=>by rw [z,E5] at hu; cases hu
   have n2:c≠dh:=λz=>by rw [z,EZ] at hu; cases hu
   rw [aF hc,aF n2,aF hc,aF n1,aF hc]; exact hu
  ·show upd _ x _ da=some (.dK [])
   rw [aF FR,aF IH,aF FR,aB]
  ·show upd _ x _ dh=some (.dK [])
   rw [aF IG,aB]
theorem Sm:¬ (Sum.inr "hands" : Key)=.inr "able" := by decide +kernel
theorem Sl:¬ (Sum.inr "hands" : Key)=.inr "due" := by decide +kernel
theorem Sj:¬ (Sum.inr "able" : Key)=.inr "due" := by decide +kernel
structure SD where
 n:Int
 bc:Int
 nums:List Int
 ws:List (List Int)
 ap:Addr
 ts:List Addr
end Ab
variable {S:SD}
namespace Ab
open PySem L2
def SD.kv (S:SD):List (Key×V):=[(.inr "hands",.int S.n),(.inr "able",.ref S.ap),(.inr "due",.int S.bc)]
theorem cS (S:SD):bW S.kv (.inr "hands")=some (.int S.n):=dP rfl
theorem cX (S:SD):bW S.kv (.inr "able")=some (.ref S.ap):=by
 unfold SD.kv
 rw [cP Sm,dP rfl]
theorem lZ (S:SD):bW S.kv (.inr "due")=some (.int S.bc):=by
 unfold SD.kv
 rw [cP Sl,cP Sj,dP rfl]
theorem xK (S:SD) (m:Int):eQ S.kv (.inr "hands") (.int m)=({ S with n:=m }:SD).kv:=by
 unfold eQ SD.kv
 rw [if_pos (by simp)]
 simp only [Qz,Xt]
 rw [if_pos trivial,if_neg (by decide +kernel),if_neg (by decide +kernel)]
theorem aFW (S:SD) (m:Int):eQ S.kv (.inr "due") (.int m)=({ S with bc:=m }:SD).kv:=by
 unfold eQ SD.kv
 rw [if_pos (by simp)]
 simp only [Qz,Xt]
 rw [if_neg (by decide +kernel),if_neg (by decide +kernel),if_pos trivial]
structure gu (K:Rb) (H:Hp) (sp:Addr) (S:SD):Prop where
 st:H sp=some (.dK S.kv)
 ai:H S.ap=some (.dK (a_ S.nums S.ts))
 tl:S.ts.length=S.nums.length
 wl:S.ws.length=S.nums.length
 tup:∀ (i:Nat) t l,S.ts[i]?=some t->S.ws[i]?=some l->aq K H t (l.map V.int)
 ne:sp≠S.ap
structure jb (S:SD):Prop where
 bk:iQ (mH S.n S.ws)=true
 up:S.nums.Pairwise (· < ·)
 j2:∀ k∈S.nums,0<=k/\k < S.bc
 bc:0<=S.bc
 len:S.ws.length=S.nums.length
theorem gu.same {sp:Addr} (h:gu K H sp S) (s:aD H H'):gu K H' sp S:=⟨s _ _ h.st,s _ _ h.ai,h.tl,h.wl,λi t l a b=>s.ah (h.tup i t l a b),h.ne⟩
theorem gu.dr {sp:Addr} {k:Key} (h:gu K H sp S) (e:bW S.kv k=some v):kF H sp (kV k) (some v):=.inl ⟨S.kv,k,.inl h.st,rfl,e.symm⟩
theorem mB {a b:Str} (h:a≠b):decide (V.str a=V.str b)=false:=decide_eq_false λz=>h (by injection z)
theorem qV {a:Str}:decide (V.str a=V.str a)=true:=decide_eq_true rfl
theorem WY:("put" : Str) ≠ "come" := by decide +kernel
theorem Hu:("go" : Str) ≠ "come" := by decide +kernel
theorem WX:("take" : Str) ≠ "come" := by decide +kernel
theorem Ht:("go" : Str) ≠ "put" := by decide +kernel
theorem Hs:("take" : Str) ≠ "put" := by decide +kernel
theorem WW:("take" : Str) ≠ "go" := by decide +kernel
theorem NJ:("come" : Str) ≠ "put" := by decide +kernel
theorem NI:("come" : Str) ≠ "take" := by decide +kernel
theorem NH:("go" : Str) ≠ "take" := by decide +kernel
theorem js (n:Nat) (h:n < 1000):n < sizeLine:=Yg h (by decide +kernel)
theorem gu.ah {sp:Addr} (h:gu K H sp S) (b:bT sp S.ap S.ap H H') (q:aq K H t xs):aq K H' t xs:=by
 have n:∀ u,H t=some u->(∀ k,u≠.dK k)->H' t=some u:=λu e h2 =>
  b t u (λz=>by rw [z,h.st] at e; exact h2 _ (Option.some.inj e).symm) (λz=>by rw [z,h.ai] at e; exact h2 _ (Option.some.inj e).symm) (λz=>by rw [z,h.ai] at e; exact h2 _ (Option.some.inj e).symm) e
 rcases q with (q | ⟨o,q⟩) | q
 ·exact .inl (.inl (n _ q (by intro _ z; cases z)))
 ·exact .inl (.inr ⟨o,n _ q (by intro _ z; cases z)⟩)
 ·exact .inr q
theorem qW {x:Int} (h:x∈l):l[l.idxOf x]?=some x:=by
 have hl:=Yf h
 rw [Qb hl,List.getElem_idxOf hl]
inductive cp where
 | c8
 | go
 | take (num:Int)
 | put (t:Addr) (l:List Int)
def gL (K:Rb) (H:Hp) (dp:Addr):cp->Prop
 | .c8=>aq K H dp [.str "come"]
 | .go=>aq K H dp [.str "go"]
 | .take num=>aq K H dp [.str "take",.int num]
 | .put t l=>aq K H dp [.str "put",.ref t]/\aq K H t (l.map V.int)
def jJ (S:SD):cp->Prop
 | .c8=>S.n≠6
 | .go=>S.n≠1/\∀ l∈S.ws,S.n - 1∉l
 | .take num=>num∈S.nums
 | .put _ l=>cA S.n (gF l)=true/\S.nums.length < 12
def SD.step (S:SD):cp->SD
 | .c8=>{ S with n:=S.n+1 }
 | .go=>{ S with n:=S.n - 1 }
 | .take num=>{ S with nums:=S.nums.eraseIdx (S.nums.idxOf num),ws:=S.ws.eraseIdx (S.nums.idxOf num),ts:=S.ts.eraseIdx (S.nums.idxOf num) }
 | .put t l=>{ S with bc:=S.bc+1,nums:=S.nums++[S.bc],ws:=S.ws++[l],ts:=S.ts++[t] }
def SD.told (S:SD):cp->V
 | .c8=>.int S.n
 | .go=>.br
 | .take _=>.br
 | .put _ _=>.int S.bc
def zJ:Sp:=λvs H Q _=>∃ n:Int,vs = [.int n]/\∀ p ap H',aD H H'->H p=none->H ap=none->p≠ap->H' p=some (.dK (⟨n,0,[],[],ap,[]⟩:SD).kv)->H' ap=some (.dK [])->Q (.ref p) H'
theorem aFX:af ["hands"] ["hands"] (aI yS):=.of
theorem aEA (G:Fn K mg "_law_e_begun" yS ["hands"] f fd):ae P w K mg base ao 1 f fd ["hands"] zJ:=by
 refine G.fn.oK aFX λbg A outer s H vs Q E hr h=>?_
 ·obtain ⟨n,rfl,k⟩:=h
  refine ⟨_,aJ (aR (aFw (uJ aK (pv 0) (uJ aK jX (uJ aK aH aFv))) rfl rfl (by simp) (by decide))),?_⟩
  intro p hp
  refine ⟨_,rfl,λap rn=>?_⟩
  have AM:p≠ap:=λz=>by rw [<- z,aB] at rn; cases rn
  have E8:H ap=none:=by rw [aF AM.symm] at rn; exact rn
  refine ⟨by rw [aF AM,aB],[(.inr "hands",.int n),(.inr "able",.ref ap),(.inr "due",.int 0)],rfl,(show (3:Nat)<=15 by decide),?_⟩
  refine k p ap _ (λc u hc=>?_) hp E8 AM ?_ (by rw [aF AM.symm,aB])
  ·have n1:c≠p:=λz=>by rw [z,hp] at hc; cases hc
   have n2:c≠ap:=λz=>by rw [z,E8] at hc; cases hc
   rw [aF n1,aF n2,aF n1]; exact hc
  ·rw [aB]
   have e2:eQ [((.inr "hands" : Key),V.int n)] (.inr "able") (.ref ap) = [(.inr "hands",.int n),(.inr "able",.ref ap)]:=jW _ (by rw [cP Sm]; rfl)
   have e3:eQ [((.inr "hands" : Key),V.int n),(.inr "able",.ref ap)] (.inr "due") (.int 0) = [(.inr "hands",.int n),(.inr "able",.ref ap),(.inr "due",.int 0)]:=jW _ (by rw [cP Sl,cP Sj]; rfl)
   show some (HO.dK (eQ (eQ [((.inr "hands" : Key),V.int n)] (.inr "able") (.ref ap)) (.inr "due") (.int 0)))=_
   rw [e2,e3]; rfl
def vM (K:Rb):Sp:=λvs H Q _=>∃ (sp dp:Addr) (S:SD) (e:cp),vs = [.ref sp,.ref dp]/\gu K H sp S/\jb S/\gL K H dp e/\jJ S e /\
 ∀ H',bT sp S.ap S.ap H H'->gu K H' sp (S.step e)->Q (S.told e) H'
theorem aFY:af ["state", "deed"] ["state", "deed"] (aI rK):=.of
theorem aFZ (G:Fn K mg "_law_e_step" rK ["state", "deed"] f fd):ae P w K mg base ao 1 f fd ["state", "deed"] (vM K):=by
 refine G.fn.oK aFY λbg A outer s H vs Q E hr h=>?_
 ·obtain ⟨sp,dp,S,e,rfl,hS,hM,hE,Bd,k⟩:=h
  have hu:=bU hr
  refine ⟨_,aE (bI (aP dX (bM cC (pv 1) aH (λ_ _=>rfl)) aK (aU _)) (aE (iY hu (pv 0) aK (aY eD (aQ hu (pv 0) aK (λ_ _=>rfl)) aH) rfl) (aJ (aR (aY fP (aQ hu (pv 0) aK (λ_ _=>rfl)) aH)))) aS)
   (aE (bI (aP dX (bM cC (pv 1) aH (λ_ _=>rfl)) aK (aU _)) (aE (iY hu (aQ hu (pv 0) aK (λ_ _=>rfl)) (aQ hu (pv 0) aK (λ_ _=>rfl)) (bM cC (pv 1) aH (λ_ _=>rfl)) rfl) (aE (iY hu (pv 0) aK (aY eD (aQ hu (pv 0) aK (λ_ _=>rfl)) aH) rfl) (aJ (aR (aY fP (aQ hu (pv 0) aK (λ_ _=>rfl)) aH))))) aS)
   (aE (bI (aP dX (bM cC (pv 1) aH (λ_ _=>rfl)) aK (aU _)) (aJ (iY hu (pv 0) aK (aY fP (aQ hu (pv 0) aK (λ_ _=>rfl)) aH) rfl)) (aJ (cK (uM (aQ hu (pv 0) aK (λ_ _=>rfl)) (bM cC (pv 1) aH (λ_ _=>rfl)) ⟨rfl,rfl,rfl,rfl⟩))))
   (aJ (aR oS)))),?_⟩
  have dk:S.nums.Nodup:=Jd.mpr (hM.up.imp λh=>Jz h)
  have zd:S.kv.length < sizeLine:=js 3 (by decide)
  have i9:S.nums.length<=12:=by rw [<- hS.wl]; exact (aZ hM.bk).2.2.1
  cases e with
  | c8 =>
   refine ⟨_,rfl,dp,_,0,_,rfl,rfl,hE,rfl,rfl,_,rfl,eG qV ?_⟩
   refine ⟨_,rfl,sp,_,rfl,hS.dr (k:=.inr "hands") (cS S),S.n,1,rfl,rfl,_,rfl,sp,_,rfl,qF.k (k:=.inr "hands") hS.st zd,?_⟩
   rw [xK]
   have yi:gu K (upd H sp (.dK ({ S with n:=S.n+1 }:SD).kv)) sp { S with n:=S.n+1 }:=⟨aB,(aF hS.ne.symm).trans hS.ai,hS.tl,hS.wl,λi t l a b=>hS.ah bT.x (hS.tup i t l a b),hS.ne⟩
   refine ⟨_,rfl,sp,_,rfl,yi.dr (k:=.inr "hands") (cS _),S.n+1,1,rfl,rfl,?_⟩
   have ee:S.n+1 - 1=S.n:=by omega
   have q:=k _ bT.x yi
   show Q (.int (S.n+1 - 1)) _
   rw [ee]; exact q
  | go =>
   refine ⟨_,rfl,dp,_,0,_,rfl,rfl,hE,rfl,rfl,_,rfl,bJ (mB Hu) ?_⟩
   refine ⟨_,rfl,dp,_,0,_,rfl,rfl,hE,rfl,rfl,_,rfl,bJ (mB Ht) ?_⟩
   refine ⟨_,rfl,dp,_,0,_,rfl,rfl,hE,rfl,rfl,_,rfl,eG qV ?_⟩
   refine ⟨_,rfl,sp,_,rfl,hS.dr (k:=.inr "hands") (cS S),S.n,1,rfl,rfl,_,rfl,sp,_,rfl,qF.k (k:=.inr "hands") hS.st zd,?_⟩
   rw [xK]
   have yi:gu K (upd H sp (.dK ({ S with n:=S.n - 1 }:SD).kv)) sp { S with n:=S.n - 1 }:=⟨aB,(aF hS.ne.symm).trans hS.ai,hS.tl,hS.wl,λi t l a b=>hS.ah bT.x (hS.tup i t l a b),hS.ne⟩
   exact k _ bT.x yi
  | take num =>
   have hi:=qW Bd
   obtain ⟨t0,qz⟩:∃ t0,S.ts[S.nums.idxOf num]?=some t0:=⟨_,Qb (by rw [hS.tl]; exact (Qa.mp hi).1)⟩
   have va:bW (a_ S.nums S.ts) (.inl num)=some (.ref t0):=cJ dk hi qz
   have da:qB (a_ S.nums S.ts) (.inl num)=a_ (S.nums.eraseIdx (S.nums.idxOf num)) (S.ts.eraseIdx (S.nums.idxOf num)):=qU dk hS.tl hi
   refine ⟨_,rfl,dp,_,0,_,rfl,rfl,hE,rfl,rfl,_,rfl,bJ (mB WX) ?_⟩
   refine ⟨_,rfl,dp,_,0,_,rfl,rfl,hE,rfl,rfl,_,rfl,bJ (mB Hs) ?_⟩
   refine ⟨_,rfl,dp,_,0,_,rfl,rfl,hE,rfl,rfl,_,rfl,bJ (mB WW) ?_⟩
   refine ⟨_,rfl,sp,_,rfl,hS.dr (k:=.inr "able") (cX S),S.ap,rfl,.inl ⟨_,.inl hS.ai⟩,_,rfl,dp,_,1,_,rfl,rfl,hE,rfl,_,.inl num,_,hS.ai,rfl,va,?_⟩
   rw [da]
   exact k _ bT.a ⟨(aF hS.ne).trans hS.st,aB,by show (S.ts.eraseIdx _).length=(S.nums.eraseIdx _).length; rw [Jf,Jf,hS.tl],by show (S.ws.eraseIdx _).length=(S.nums.eraseIdx _).length; rw [Jf,Jf,hS.wl],λi t l a b=>hS.ah bT.a (hS.tup _ t l (fJ a) (fJ b)),hS.ne⟩
  | put t l =>
   obtain ⟨CI,DU⟩:=hE
   obtain ⟨hw,lu⟩:=Bd
   have kr:S.bc∉S.nums:=λz=>by have:=hM.j2 _ z; omega
   have e5:eQ (a_ S.nums S.ts) (.inl S.bc) (.ref t)=a_ (S.nums++[S.bc]) (S.ts++[t]):=by
    rw [vK hS.tl]
    exact jW _ (iT kr)
   refine ⟨_,rfl,dp,_,0,_,rfl,rfl,CI,rfl,rfl,_,rfl,bJ (mB WY) ?_⟩
   refine ⟨_,rfl,dp,_,0,_,rfl,rfl,CI,rfl,rfl,_,rfl,eG qV ?_⟩
   refine ⟨_,rfl,dp,_,1,_,rfl,rfl,CI,rfl,_,rfl,sp,_,rfl,hS.dr (k:=.inr "able") (cX S),_,rfl,sp,_,rfl,hS.dr (k:=.inr "due") (lZ S),S.ap,_,rfl,qF.k (k:=.inl S.bc) hS.ai (js _ (by rw [gS hS.tl]; omega)),?_⟩
   rw [e5]
   have kh:upd H S.ap (.dK (a_ (S.nums++[S.bc]) (S.ts++[t]))) sp=some (.dK S.kv):=(aF hS.ne).trans hS.st
   have g1:kF (upd H S.ap (.dK (a_ (S.nums++[S.bc]) (S.ts++[t])))) sp (kV (.inr "due")) (some (.int S.bc)):=.inl ⟨S.kv,_,.inl kh,rfl,(lZ S).symm⟩
   refine ⟨_,rfl,sp,_,rfl,g1,S.bc,1,rfl,rfl,_,rfl,sp,_,rfl,qF.k (k:=.inr "due") kh zd,?_⟩
   rw [aFW]
   have b2:bT sp S.ap S.ap H (upd (upd H S.ap (.dK (a_ (S.nums++[S.bc]) (S.ts++[t])))) sp (.dK ({ S with bc:=S.bc+1 }:SD).kv)):=bT.a.trans bT.x
   have yi:gu K (upd (upd H S.ap (.dK (a_ (S.nums++[S.bc]) (S.ts++[t])))) sp (.dK ({ S with bc:=S.bc+1 }:SD).kv)) sp (S.step (.put t l)):=by
    refine ⟨aB,(aF hS.ne.symm).trans aB,?_,?_,λi t' l' q1 q2=>hS.ah b2 ?_,hS.ne⟩
    ·show (S.ts++[t]).length=(S.nums++[S.bc]).length
     rw [Qg,Qg,hS.tl]; rfl
    ·show (S.ws++[l]).length=(S.nums++[S.bc]).length
     rw [Qg,Qg,hS.wl]; rfl
    ·have k_:(S.ts++[t])[i]?=some t':=q1
     have xo:(S.ws++[l])[i]?=some l':=q2
     by_cases c:i < S.ts.length
     ·rw [Qn c] at k_
      rw [Qn (by rw [hS.wl,<- hS.tl]; exact c)] at xo
      exact hS.tup i t' l' k_ xo
     ·have ci:i=S.ts.length:=by
       have:=(Qa.mp k_).1
       rw [Qg] at this
       have:i < S.ts.length+1:=this
       omega
      have cw:S.ts.length=S.ws.length:=by rw [hS.tl,hS.wl]
      rw [ci,Qr (Qh _),Jy] at k_
      rw [ci,cw,Qr (Qh _),Jy] at xo
      have e1:t=t':=by simpa using k_
      have e2:l=l':=by simpa using xo
      rw [<- e1,<- e2]; exact DU
   refine ⟨_,rfl,sp,_,rfl,.inl ⟨_,.inr "due",.inl yi.st,rfl,(lZ _).symm⟩,S.bc+1,1,rfl,rfl,?_⟩
   have ee:S.bc+1 - 1=S.bc:=by omega
   have q:=k _ b2 yi
   show Q (.int (S.bc+1 - 1)) _
   rw [ee]; exact q
theorem aHi (h:km D) (h6:D.n≠6):km D.pd:=by
 obtain ⟨iu,gh,cz,fg⟩:=aZ h.bk
 obtain ⟨jz,ox⟩:=eZ h.dl
 have n6:D.n+1<=6:=by omega
 refine ⟨iZ (show 1<=D.n+1 by omega) n6 cz λl hl=>?_,h.dl,h.up,h.j2,h.nx,?_⟩
 ·obtain ⟨a,b,c⟩:=bA (fg l hl)
  exact lY a (λx hx=>by have:=b x hx; show 0<=x/\x < D.n+1; omega) c
 ·obtain ⟨lv,L1,L2⟩:=h.lv
  have hr:∀ g∈D.hs,0<=g/\g < D.n:=λg hg=>by
   obtain ⟨i,hi⟩:=Qv.mp hg
   have hl:=Qb (show i < D.ws.length by rw [<- jz]; exact (Qa.mp hi).1)
   exact (bA (fg _ (Qe hl))).2.1 g (ox i _ _ hi hl)
  refine ⟨λx=>if x=D.n then 0 else lv x,λx h0 h1=>?_,λw g l q1 q2 t ht=>?_⟩
  ·have r_:x < D.n+1:=h1
   show (if x=D.n then 0 else lv x)<=((D.hs.count x:Nat):Int)/\((D.hs.count x:Nat):Int)<=(if x=D.n then 0 else lv x)+1
   by_cases c:x=D.n
   ·have c0:D.hs.count x=0:=Yl.mpr λz=>by have:=hr x z; omega
    rw [if_pos c,c0]
    omega
   ·rw [if_neg c]
    exact L1 x h0 (by omega)
  ·have k_:D.hs[w]?=some g:=q1
   have hg:=hr g (Qe k_)
   have qa:=(bA (fg l (Qe q2))).2.1 t ht
   show (if g=D.n then 0 else lv g)<=(if t=D.n then 0 else lv t)
   rw [if_neg (by omega),if_neg (by omega)]
   exact L2 w g l q1 q2 t ht
theorem aHj (h:km D) (h1:D.n≠1) (gx:∀ l∈D.ws,D.n - 1∉l):km D.gone:=by
 obtain ⟨iu,gh,cz,fg⟩:=aZ h.bk
 refine ⟨iZ (show 1<=D.n - 1 by omega) (show D.n - 1<=6 by omega) cz λl hl=>?_,h.dl,h.up,h.j2,h.nx,?_⟩
 ·obtain ⟨a,b,c⟩:=bA (fg l hl)
  refine lY a (λx hx=>?_) c
  have:=b x hx
  have:x≠D.n - 1:=λz=>gx l hl (z ▸ hx)
  show 0<=x/\x < D.n - 1
  omega
 ·obtain ⟨lv,L1,L2⟩:=h.lv
  exact ⟨lv,λx h0 h1=>L1 x h0 (by have r_:x < D.n - 1:=h1; omega),L2⟩
theorem pO {e:cp} (h:jb S) (m:jJ S e):jb (S.step e):=by
 obtain ⟨iu,gh,cz,fg⟩:=aZ h.bk
 have hd:=h.bc
 cases e with
 | c8 =>
  have m':S.n≠6:=m
  have n6:S.n+1<=6:=by omega
  refine ⟨iZ (show 1<=S.n+1 by omega) n6 cz λl hl=>?_,h.up,h.j2,h.bc,h.len⟩
  obtain ⟨a,b,c⟩:=bA (fg l hl)
  exact lY a (λx hx=>by have:=b x hx; show 0<=x/\x < S.n+1; omega) c
 | go =>
  obtain ⟨m1,m2⟩:=m
  refine ⟨iZ (show 1<=S.n - 1 by omega) (show S.n - 1<=6 by omega) cz λl hl=>?_,h.up,h.j2,h.bc,h.len⟩
  obtain ⟨a,b,c⟩:=bA (fg l hl)
  refine lY a (λx hx=>?_) c
  have:=b x hx
  have:x≠S.n - 1:=λz=>m2 l hl (z ▸ hx)
  show 0<=x/\x < S.n - 1
  omega
 | take num =>
  refine ⟨iZ iu gh (Ja (Yx ..) cz) λl' jt=>fg l' (Xs jt),h.up.sublist (Wh ..),λk' qe=>h.j2 k' (Xs qe),h.bc,?_⟩
  show (S.ws.eraseIdx _).length=(S.nums.eraseIdx _).length
  rw [Jf,Jf,h.len]
 | put t l =>
  obtain ⟨m1,m2⟩:=m
  refine ⟨iZ iu gh ?_ λl' jt=>?_,?_,λk' qe=>?_,show 0<=S.bc+1 by omega,?_⟩
  ·show (S.ws++[l]).length<=12
   rw [Qg,h.len]
   show S.nums.length+1<=12
   omega
  ·have mn:l'∈S.ws++[l]:=jt
   rcases Jg.mp mn with z | z
   ·exact fg l' z
   ·rw [show l'=l by simpa using z]; exact m1
  ·show (S.nums++[S.bc]).Pairwise (· < ·)
   refine Zf.mpr ⟨h.up,Yw _ _,λa ha b hb=>?_⟩
   rw [show b=S.bc by simpa using hb]
   exact (h.j2 a ha).2
  ·have we:k'∈S.nums++[S.bc]:=qe
   show 0<=k'/\k' < S.bc+1
   rcases Jg.mp we with z | z
   ·have:=h.j2 k' z
    omega
   ·rw [show k'=S.bc by simpa using z]; omega
  ·show (S.ws++[l]).length=(S.nums++[S.bc]).length
   rw [Qg,Qg,h.len]; rfl
structure su (D:DD) (S:SD):Prop where
 n:D.n=S.n
 nx:D.nx=S.bc
 nums:D.nums=S.nums
 ws:D.ws=S.ws
def Did (D:DD):cp->DD->Prop
 | .c8,D'=>D'=D.pd
 | .go,D'=>D'=D.gone
 | .take num,D'=>∃ (k:Nat) (last:Int) (ss:List (Nat×Int×Int)),D.nums[k]?=some num/\D.hs[k]?=some last/\sH D.n D.ws D.hs last D.n ss/\D'=D.take k ss
 | .put t l,D'=>∃ (hs:List Int) (m:Int) (ss:List (Nat×Int×Int)) (last:Int),Fi D l hs m ss last/\D'=D.put l t hs m
def GV (K:Rb) (C Pt:Addr):Sp:=λvs H Q _=>∃ (x dp:Addr) (D:DD) (S:SD) (e:cp),vs = [.ref x,.ref dp]/\ft K H C x D/\km D/\su D S/\gL K H dp e/\jJ S e/\H Pt=some (.tab rP) /\
 ∀ D' H',bT x D.da D.dh H H'->D'.da=D.da->D'.dh=D.dh->ft K H' C x D'->km D'->su D' (S.step e)->Did D e D'->Q (S.told e) H'
theorem Sb:af ["dealing", "deed"] ["dealing", "deed"] (aI ze):=.of
set_option maxHeartbeats 1000000 in
theorem aIa {CN CM Bh Bg:Addr} {CU CT Bk Bj:FuncData} (G:Fn K mg "_law_e_do" ze ["dealing", "deed"] f fd) (T:Dc K C) (EB:Mt K C "put" Bn ["self", "able"] CN CU) (Et:ae P w K mg base ao 3 CN CU ["self", "able"] (Sn K C Pt)) (EA:Mt K C "take" uV ["self", "number"] CM CT) (Es:ae P w K mg base ao 3 CM CT ["self", "number"] (SI K C)) (EE:Mt K C "come" uW ["self"] Bh Bk) (Ex:ae P w K mg base ao 2 Bh Bk ["self"] (TY K C)) (EC:Mt K C "go" p8 ["self"] Bg Bj) (Ew:ae P w K mg base ao 2 Bg Bj ["self"] (So K C)):ae P w K mg base ao 4 f fd ["dealing", "deed"] (GV K C Pt):=by
 refine G.fn.oK Sb λbg A outer s H vs Q E hr h=>?_
 ·obtain ⟨x,dp,D,S,e,rfl,hD,hM,hL,hE,Bd,hT,k⟩:=h
  have r3:aj 3 _:=hr
  have r2:aj 2 _:=hr.mono (by decide)
  refine ⟨_,aE (bI (aP dX (bM cC (pv 1) aH (λ_ _=>rfl)) aK (aU _)) (aJ (aR (kH (pv 0) T.cl EB.me Et r3 EB.bd .nil gH (aA (bM cC (pv 1) aH (λ_ _=>rfl)) aC)))) aS)
   (aE (bI (aP dX (bM cC (pv 1) aH (λ_ _=>rfl)) aK (aU _)) (aJ (aR (kH (pv 0) T.cl EA.me Es r3 EA.bd .nil gH (aA (bM cC (pv 1) aH (λ_ _=>rfl)) aC)))) aS)
   (aE (bI (aP dX (bM cC (pv 1) aH (λ_ _=>rfl)) aK (aU _)) (aJ (aR (cV (pv 0) T.cl EE.me Ex r2 EE.bd .nil gH))) aS)
   (aJ (aR (cV (pv 0) T.cl EC.me Ew r2 EC.bd .nil gH))))),?_⟩
  have wb:D.da≠x:=λz=>by have:=hD.ai; rw [z,hD.ins] at this; cases this
  have ue:D.dh≠x:=λz=>by have:=hD.hand; rw [z,hD.ins] at this; cases this
  have i9:D.nums.length<=12:=by rw [<- hD.wl]; exact (aZ hM.bk).2.2.1
  cases e with
  | c8 =>
   refine ⟨_,rfl,dp,_,0,_,rfl,rfl,hE,rfl,rfl,_,rfl,bJ (mB NJ) ?_⟩
   refine ⟨_,rfl,dp,_,0,_,rfl,rfl,hE,rfl,rfl,_,rfl,bJ (mB NI) ?_⟩
   refine ⟨_,rfl,dp,_,0,_,rfl,rfl,hE,rfl,rfl,_,rfl,eG qV ?_⟩
   have h6:D.n≠6:=by rw [hL.n]; exact Bd
   refine ⟨_,rfl,x,D.dx,_,rfl,hD.ins,rfl,x,D,rfl,hD.ins,h6,?_⟩
   have b:bT x D.da D.dh H (upd H x (.ins C D.dx D.pd.fj)):=bT.x
   have q:=k D.pd _ b rfl rfl ⟨aB,(aF wb).trans hD.ai,(aF ue).trans hD.hand,hD.tl,hD.wl,hD.hl,λi t l q1 q2=>b.ah hD.ins hD.ai hD.hand (hD.tup i t l q1 q2),hD.ne⟩ (aHi hM h6) ⟨by show D.n+1=S.n+1; rw [hL.n],hL.nx,hL.nums,hL.ws⟩ rfl
   have e:V.int D.n=S.told .c8:=by rw [hL.n]; rfl
   rw [e]; exact q
  | go =>
   refine ⟨_,rfl,dp,_,0,_,rfl,rfl,hE,rfl,rfl,_,rfl,bJ (mB Ht) ?_⟩
   refine ⟨_,rfl,dp,_,0,_,rfl,rfl,hE,rfl,rfl,_,rfl,bJ (mB NH) ?_⟩
   refine ⟨_,rfl,dp,_,0,_,rfl,rfl,hE,rfl,rfl,_,rfl,bJ (mB Hu) ?_⟩
   obtain ⟨m1,m2⟩:=Bd
   have h1:D.n≠1:=by rw [hL.n]; exact m1
   have h2:∀ l∈D.ws,D.n - 1∉l:=by rw [hL.n,hL.ws]; exact m2
   refine ⟨_,rfl,x,D.dx,_,rfl,hD.ins,rfl,x,D,rfl,hD,h1,h2,by omega,λH' b hx=>?_⟩
   have b3:bT x D.da D.dh H H':=λc u z1 _ _ hu=>b c u z1 hu
   exact k D.gone H' b3 rfl rfl ⟨hx,b _ _ wb hD.ai,b _ _ ue hD.hand,hD.tl,hD.wl,hD.hl,λi t l q1 q2=>b3.ah hD.ins hD.ai hD.hand (hD.tup i t l q1 q2),hD.ne⟩ (aHj hM h1 h2) ⟨by show D.n - 1=S.n - 1; rw [hL.n],hL.nx,hL.nums,hL.ws⟩ rfl
  | take num =>
   refine ⟨_,rfl,dp,_,0,_,rfl,rfl,hE,rfl,rfl,_,rfl,bJ (mB Hs) ?_⟩
   refine ⟨_,rfl,dp,_,0,_,rfl,rfl,hE,rfl,rfl,_,rfl,eG qV ?_⟩
   have hm:num∈D.nums:=by rw [hL.nums]; exact Bd
   have hi:=qW hm
   obtain ⟨last,g9⟩:∃ last,D.hs[D.nums.idxOf num]?=some last:=⟨_,Qb (by rw [hD.hl]; exact (Qa.mp hi).1)⟩
   refine ⟨_,rfl,x,D.dx,_,rfl,hD.ins,rfl,_,rfl,dp,_,1,_,rfl,rfl,hE,rfl,x,D,num,D.nums.idxOf num,last,rfl,hD,hM,hi,g9,λss H' b TK Kq Km=>?_⟩
   exact k (D.take (D.nums.idxOf num) ss) H' b rfl rfl Kq Km ⟨hL.n,hL.nx,by show D.nums.eraseIdx _=S.nums.eraseIdx _; rw [hL.nums],by show D.ws.eraseIdx _=S.ws.eraseIdx _; rw [hL.ws,hL.nums]⟩ ⟨D.nums.idxOf num,last,ss,hi,g9,TK,rfl⟩
  | put t l =>
   obtain ⟨CI,DU⟩:=hE
   obtain ⟨hw,lu⟩:=Bd
   refine ⟨_,rfl,dp,_,0,_,rfl,rfl,CI,rfl,rfl,_,rfl,eG qV ?_⟩
   refine ⟨_,rfl,x,D.dx,_,rfl,hD.ins,rfl,_,rfl,dp,_,1,_,rfl,rfl,CI,rfl,x,t,D,l,rfl,hD,hM,DU,by rw [hL.n]; exact hw,by rw [hL.nums]; exact lu,hT,λhs m ss last H' b PS Kq Km=>?_⟩
   have q:=k (D.put l t hs m) H' b rfl rfl Kq Km ⟨hL.n,by show D.nx+1=S.bc+1; rw [hL.nx],by show D.nums++[D.nx]=S.nums++[S.bc]; rw [hL.nums,hL.nx],by show D.ws++[l]=S.ws++[l]; rw [hL.ws]⟩ ⟨hs,m,ss,last,PS,rfl⟩
   have e:V.int D.nx=S.told (.put t l):=by rw [hL.nx]; rfl
   rw [e]; exact q
theorem gu.but {sp:Addr} (h:gu K H sp S) (e:H t=some (.lst xs)) (b:ba t H H'):gu K H' sp S :=
 ⟨b _ _ (λz=>by have:=h.st; rw [z,e] at this; cases this) h.st,b _ _ (λz=>by have:=h.ai; rw [z,e] at this; cases this) h.ai,h.tl,h.wl,λi t' l q1 q2=>b.ah e (h.tup i t' l q1 q2),h.ne⟩
theorem ft.but {x:Addr} (h:ft K H C x D) (e:H t=some (.lst xs)) (b:ba t H H'):ft K H' C x D :=
 ⟨b _ _ (λz=>by have:=h.ins; rw [z,e] at this; cases this) h.ins,b _ _ (λz=>by have:=h.ai; rw [z,e] at this; cases this) h.ai,b _ _ (λz=>by have:=h.hand; rw [z,e] at this; cases this) h.hand,h.tl,h.wl,h.hl,λi t' l q1 q2=>b.ah e (h.tup i t' l q1 q2),h.ne⟩
theorem c9.lst {a:Addr} {N:Nat} (h:c9 K H t a ns N):∃ xs,H t=some (.lst xs):=by
 obtain ⟨⟨p,q,_,_,e⟩,_⟩:=h
 exact ⟨_,e⟩
def w9 (c:TT) (σ:St) (H:Hp) (b:Bool):Prop:=∀ Q':Bool->Hp->Prop,(∀ H',aD H H'->Q' b H')->c σ H Q'
theorem G0 {t u:TT} {σ:St} {b c:Bool} (ht:w9 t σ H b) (hu:b=true->∀ H1,aD H H1->w9 u σ H1 c):w9 (K4 t u) σ H (b && c):=λQ' q=>ht _ λH1 s1=>by
 cases b with
 | true=>exact kN (hu rfl H1 s1 _ λH2 s2=>q H2 (s1.trans s2))
 | false=>exact oH (q H1 s1)
theorem vN {t u:TT} {σ:St} {b c:Bool} (ht:w9 t σ H b) (hu:b=false->∀ H1,aD H H1->w9 u σ H1 c):w9 (NO t u) σ H (b || c):=λQ' q=>ht _ λH1 s1=>by
 cases b with
 | false=>exact oH (hu rfl H1 s1 _ λH2 s2=>q H2 (s1.trans s2))
 | true=>exact kN (q H1 s1)
theorem sJ {t:TT} {σ:St} {b:Bool} (ht:w9 t σ H b):w9 (RT t) σ H (!b):=λQ' q=>ht _ q
theorem kM {c:TT} {t u:TS} {D:Ends} {σ:St} (b:Bool) (hc:w9 c σ H b) (h1:b=true->∀ H',aD H H'->t D σ H') (h2:b=false->∀ H',aD H H'->u D σ H'):Eb c t u D σ H:=hc _ λH' s=>by
 cases b with
 | true=>exact kN (h1 rfl H' s)
 | false=>exact oH (h2 rfl H' s)
theorem dI {i j:Int}:decide (V.int i=V.int j)=decide (i=j):=by
 by_cases c:i=j
 ·rw [decide_eq_true c,c,decide_eq_true rfl]
 ·rw [decide_eq_false c,decide_eq_false λz=>c (by injection z)]
theorem Sh {σ:St} {sp:Addr} {m:Int} (hS:gu K H sp S) (hM:jb S) (h1:σ[1]?=some (some (.ref sp))) (hb:d7 1 fr σ = [none,some (.int m),some (.ref sp)]) :
  w9 (tB (FF (λxs H Q=>∃ (p:Addr) (bs:List Bool),xs = [V.ref p]/\au K H p (bs.map V.bl)/\Q (V.bl (bs.any id)) H) (iL (TF 1 fr (Ej (pQ 1) (tC (.str "able"))) (bN 0) Ah (xf (Dd K false) (pQ 1) (Ej (Ej (pQ 2) (tC (.str "able"))) (pQ 0)))) oF))) σ H (S.ws.any λl=>decide (m∈l)):=by
 have dk:S.nums.Nodup:=Jd.mpr (hM.up.imp λh=>Jz h)
 have i9:S.nums.length<=12:=by rw [<- hS.wl]; exact (aZ hM.bk).2.2.1
 intro Q' q
 refine ⟨_,h1,sp,_,rfl,hS.dr (k:=.inr "able") (cX S),S.ap,_,rfl,hS.ai,λo=>?_⟩
 have z2:upd H S.ap (.bq o (.dK (a_ S.nums S.ts))) S.ap=some (.bq o (.dK (a_ S.nums S.ts))):=aB
 have bf:ba S.ap H (upd H S.ap (.bq o (.dK (a_ S.nums S.ts)))):=ba.at
 have xg:=bf _ _ hS.ne hS.st
 have lh:(a_ S.nums S.ts).length=S.nums.length:=gS hS.tl
 refine nR (a:=S.ap) (o:=o) (kvs:=a_ S.nums S.ts) (λσ=>∃ u,σ = [u,some (.int m),some (.ref sp)]) (λi ys H4=>ys=((S.ws.take i).map λl=>decide (m∈l)).map V.bl/\H4=upd H S.ap (.bq o (.dK (a_ S.nums S.ts)))) (iI (by omega)) ⟨none,hb⟩ ⟨rfl,rfl⟩ (λi ys H4 h=>by rw [h.1,Qd,Qd,Ji]; omega) (λi ys H4 h=>by rw [h.2]; exact z2) ?_ ?_
 ·rintro i ys σ kv H4 ie ⟨u,rfl⟩ ⟨rfl,rfl⟩ hz
  obtain ⟨num,t',cm,qa,rfl⟩:∃ num t',S.nums[i]?=some num/\S.ts[i]?=some t'/\kv=(.inl num,.ref t'):=by
   unfold a_ at ie
   rw [Qi] at ie
   obtain ⟨p,hp,e⟩:=Qs.mp ie
   rw [Je] at hp
   exact ⟨p.1,p.2,hp.1,hp.2,e.symm⟩
  have hi:i < S.nums.length:=(Qa.mp cm).1
  obtain ⟨l,hl⟩:∃ l,S.ws[i]?=some l:=⟨_,Qb (by rw [hS.wl]; exact hi)⟩
  have j9:aq K (upd H S.ap (.bq o (.dK (a_ S.nums S.ts)))) t' (l.map V.int):=bf.iw hS.ai (hS.tup i t' l qa hl)
  refine cQ ?_
  refine ⟨_,rfl,_,rfl,sp,_,rfl,.inl ⟨S.kv,.inr "able",.inl xg,rfl,(cX S).symm⟩,_,rfl,S.ap,.ref t',rfl,.inl ⟨_,.inl num,.inr ⟨o,z2⟩,rfl,(cJ dk cm qa).symm⟩,t',_,rfl,.inr j9,rfl,jQ _,hz,⟨_,rfl⟩,?_,rfl⟩
  obtain ⟨wc,A!⟩:=Qa.mp hl
  rw [Xb wc,A!,Qw,Qw]
  show _++[V.bl (uf (.int m) (l.map V.int))]=_
  rw [qS]; rfl
 ·rintro ys H4 ⟨rfl,rfl⟩ pc gj
  have pz:pc≠S.ap:=λz=>by rw [z,z2] at gj; cases gj
  refine ⟨pc,(S.ws.take (a_ S.nums S.ts).length).map λl=>decide (m∈l),rfl,au.of (by rw [aF pz,aB]),_,rfl,?_⟩
  rw [lh,<- hS.wl,Jr]
  have e:((S.ws.map λl=>decide (m∈l)).any id)=S.ws.any λl=>decide (m∈l):=by
   rw [Yi]; rfl
  rw [e]
  refine q _ λb' u d9=>?_
  by_cases c:b'=S.ap
  ·rw [c] at d9 ⊢
   rw [aB,<- hS.ai]; exact d9
  ·have n2:b'≠pc:=λz=>by rw [aF pz] at gj; rw [z,gj] at d9; cases d9
   rw [aF c,aF n2,aF c]; exact d9
def LD (K:Rb):Sp:=λvs H Q _=>∃ (t a:Addr) (ns:List Int) (N:Nat) (sp:Addr) (S:SD),vs = [.ref t,.ref sp]/\c9 K H t a ns N/\N<=700000/\gu K H sp S/\jb S /\
 ∀ dp e H',ba t H H'->c9 K H' t a ns (N+20)->gL K H' dp e->jJ S e->Q (.ref dp) H'
theorem zK:af ["jar", "state", "kind", "last", "numbers"] ["jar", "state"] (aI xE):=.of
set_option maxHeartbeats 1000000 in
theorem aF1 (G:Fn K mg "_law_e_deed" xE ["jar", "state"] f fd) (B:Bl mg) (j6:Fn K mg "_law_e_scoop" kQ ["jar", "many"] fS dS) (j5:ae P w K mg base ao 2 fS dS ["jar", "many"] (jM K)) (xb:Fn K mg "_law_e_able" qM ["jar", "hands"] fA dA) (w_:ae P w K mg base ao 3 fA dA ["jar", "hands"] (rO K)):ae P w K mg base ao 4 f fd ["jar", "state"] (LD K):=by
 refine G.fn.oK zK λbg A outer s H vs Q E hr h=>?_
 ·obtain ⟨t,a,ns,N,sp,S,rfl,hJ,hN,hS,hM,k⟩:=h
  have r3:aj 3 _:=hr
  have r2:aj 2 _:=hr.mono (by decide)
  have hu:=bU hr
  refine ⟨_,aE (aX (i:=2) zK.nd rfl (Or.inl rfl) (aW j6 j5 r2 rfl (aA (pv 0) (aA aH aC))))
   (aE (aX (i:=3) zK.nd rfl (Or.inr rfl) (aY fP (aQ hu (pv 1) aK (λ_ _=>rfl)) aH))
   (aE (bI (PW.pt (mL (aP dX (pv 2) aH (aU _)) (lN (aP wM (aQ hu (pv 1) aK (λ_ _=>rfl)) aH (aU _))))) (aJ (aR (cB (aA aK aC)))) aS)
   (aE (bI (PW.pt (mL (aP dX (pv 2) aH (aU _)) (mL (aP mM (pv 3) aH (aU _)) (lN (bV (bL (aL (kZ rfl) rfl B.any xH (aA (mY (own:=["number"]) (fr:=[3,1]) (bo:=["last", "state"]) (bK (aI xE) ["jar", "state", "kind", "last", "numbers"] rfl rfl (by decide +kernel)) rfl (aQ hu (pv 1) aK (λ_ _=>rfl))
     (λ_ _ _ _=>(aV (i:=0) (show (["number", "last", "state"]:List Str).Nodup by decide +kernel) rfl (Or.inl rfl))) (λ_ _ _ _=>eM)
     (λ_ _ _ _=>(gN (gY (K:=K) rfl) (pv 1) (aQ hu (aQ hu (pv 2) aK (λ_ _=>rfl)) (pv 0) (λ_ _=>rfl)) (by with_unfolding_all rfl)))) aC)))))))) (aJ (aR (cB (aA aK aC)))) aS)
   (aE (bI (PW.pt (fZ (PW.pt (mL (aP wM (pv 2) aH (aU _)) (lN (aP mM (aL lA rfl B.len eP (aA (aQ hu (pv 1) aK (λ_ _=>rfl)) aC)) aH (aU _))))) (eV (aP dX (aL lA rfl B.len eP (aA (aQ hu (pv 1) aK (λ_ _=>rfl)) aC)) aH (aU _)))))
    (aE (aX (i:=4) zK.nd rfl (Or.inl rfl) (aL (eR rfl) rfl B.sorted lC (aA (aQ hu (pv 1) aK (λ_ _=>rfl)) aC)))
    (aJ (aR (cB (aA aK (aA (bM cM (pv 4) (aW j6 j5 r2 rfl (aA (pv 0) (aA (aL bB rfl B.len eP (aA (pv 4) aC)) aC))) (λ_ _=>rfl)) aC)))))) aS)
   (aJ (aR (cB (aA aK (aA (aW xb w_ r3 rfl (aA (pv 0) (aA (aQ hu (pv 1) aK (λ_ _=>rfl)) aC))) aC))))))))),?_⟩
  obtain ⟨iu,gh,cz,fg⟩:=aZ hM.bk
  have i9:S.nums.length<=12:=by rw [<- hS.wl]; exact cz
  have dk:S.nums.Nodup:=Jd.mpr (hM.up.imp λh=>Jz h)
  obtain ⟨Fw,e0⟩:=hJ.lst
  refine ⟨_,rfl,t,a,ns,N,12,rfl,hJ,by omega,by decide,by decide,λkd H1 k0 k1 b1 J1=>?_⟩
  dsimp only [bN]
  have yh:=hS.but e0 b1
  refine ⟨_,rfl,sp,_,rfl,yh.dr (k:=.inr "hands") (cS S),S.n,1,rfl,rfl,?_⟩
  dsimp only [bN]
  refine kM (decide (V.int kd=V.int 0) && decide (S.n < 6)) (G0 (λQ' q=>⟨_,rfl,rfl,_,rfl,q _ (aD.refl _)⟩) (λ_ H2 s2 Q' q=>⟨_,rfl,sp,_,rfl,(yh.same s2).dr (k:=.inr "hands") (cS S),S.n,6,rfl,rfl,_,rfl,q _ (aD.refl _)⟩)) (λhb H2 s2=>?_) (λhb H2 s2=>?_)
  ·rw [Jc] at hb
   have h6:=of_decide_eq_true hb.2
   refine ⟨js 1 (by decide) |> Jh,λp hp=>?_⟩
   exact k p .c8 _ ((b1.trans (ba.of s2)).trans (ba.of (aD.new hp))) (((J1.same s2).same (aD.new hp)).more (by omega)) (aq.of aB) (show S.n≠6 by omega)
  clear hb
  have og:=yh.same s2
  have J2:=J1.same s2
  have b2:=b1.trans (ba.of s2)
  dsimp only [jS]
  refine kM (decide (V.int kd=V.int 1) && (decide (0 < S.n - 1) && !(S.ws.any λl=>decide (S.n - 1∈l)))) (G0 (λQ' q=>⟨_,rfl,rfl,_,rfl,q _ (aD.refl _)⟩) (λ_ H3 s3=>G0 (λQ' q=>⟨_,rfl,S.n - 1,0,rfl,rfl,_,rfl,q _ (aD.refl _)⟩) (λ_ H4 s4=>sJ ?B8))) (λhb H3 s3=>?yes) (λhb H3 s3=>?no)
  case yes =>
   rw [Jc,Jc] at hb
   have h1:=of_decide_eq_true hb.2.1
   refine ⟨js 1 (by decide) |> Jh,λp hp=>?_⟩
   refine k p .go _ ((b2.trans (ba.of s3)).trans (ba.of (aD.new hp))) (((J2.same s3).same (aD.new hp)).more (by omega)) (aq.of aB) ⟨by omega,λl hl z=>?_⟩
   have:=hb.2.2
   rw [Bool.not_eq_true',List.any_eq_false] at this
   exact this l hl (decide_eq_true z)
  case B8 =>
   exact Sh ((og.same s3).same s4) hM rfl rfl
  clear hb
  have oy:=og.same s3
  have J3:=J2.same s3
  have b3:=b2.trans (ba.of s3)
  dsimp only [jS]
  have lh:(a_ S.nums S.ts).length=S.nums.length:=gS hS.tl
  refine kM (decide (kd < 5) && decide (0 < ((a_ S.nums S.ts).length:Int)) || decide (V.int ((a_ S.nums S.ts).length:Int)=V.int 12)) (vN (G0 (λQ' q=>⟨_,rfl,kd,5,rfl,rfl,_,rfl,q _ (aD.refl _)⟩) (λ_ H4 s4 Q' q=>⟨_,rfl,sp,_,rfl,(oy.same s4).dr (k:=.inr "able") (cX S),S.ap,_,rfl,(oy.same s4).ai,_,0,rfl,rfl,_,rfl,q _ (aD.refl _)⟩)) (λ_ H4 s4 Q' q=>⟨_,rfl,sp,_,rfl,(oy.same s4).dr (k:=.inr "able") (cX S),S.ap,_,rfl,(oy.same s4).ai,rfl,_,rfl,q _ (aD.refl _)⟩)) (λhb H4 s4=>?take) (λhb H4 s4=>?put)
  case take =>
   have pos:0 < S.nums.length:=by
    rw [lh] at hb
    rcases Wg .. |>.mp hb with z | z
    ·have:=of_decide_eq_true ((Jc ..).mp z).2
     omega
    ·have:=of_decide_eq_true z
     injection this with this
     omega
   have yg:=oy.same s4
   refine ⟨_,rfl,sp,_,rfl,yg.dr (k:=.inr "able") (cX S),S.ap,_,S.nums,rfl,.inl yg.ai,jG hS.tl,by omega,λp ms hp iy _=>?_⟩
   dsimp only [bN]
   have s5:=aD.new (o:=.lst (ms.map V.int)) hp
   have J5:=(J3.same s4).same s5
   have ep:upd H4 p (.lst (ms.map V.int)) p=some (.lst (ms.map V.int)):=aB
   have b5:=(b3.trans (ba.of s4)).trans (ba.of s5)
   have FO:p≠t:=(J3.same s4).ne hp
   generalize upd H4 p (.lst (ms.map V.int))=H5 at s5 J5 ep b5 ⊢
   have ml:ms.length=S.nums.length:=iy.length_eq
   refine ⟨_,rfl,_,rfl,_,rfl,p,_,rfl,.inl (au.of ep),t,a,ns,N+1,_,rfl,J5,by omega,by rw [Qd]; omega,?_,λr H6 r0 r1 b6 J6=>?_⟩
   ·rw [Qd,ml]
    have:(S.nums.length:Int).natAbs<=12:=by omega
    exact Xp this (by decide +kernel)
   rw [Qd,ml] at r1
   obtain ⟨num,cm⟩:∃ num,ms[r.toNat]?=some num:=⟨_,Qb (by omega)⟩
   refine ⟨p,_,r,.int num,rfl,rfl,au.of (b6 _ _ FO ep),?_,js 2 (by decide) |> Jh,λdp fe=>?_⟩
   ·have er:r=((r.toNat:Nat):Int):=by omega
    rw [er]
    exact gA (by rw [Qi,cm]; rfl)
   ·exact k dp (.take num) _ ((b5.trans b6).trans (ba.of (aD.new fe))) ((J6.same (aD.new fe)).more (by omega)) (aq.of aB) (iy.mem_iff.mp (Qe cm))
  case put =>
   have j2:S.nums.length < 12:=by
    rw [Bool.or_eq_false_iff,lh] at hb
    have:=of_decide_eq_false hb.2
    have:¬ (S.nums.length:Int)=12:=λz=>this (by rw [z])
    omega
   have yg:=oy.same s4
   have J4:=J3.same s4
   refine ⟨_,rfl,_,rfl,sp,_,rfl,yg.dr (k:=.inr "hands") (cS S),t,a,ns,N+1,S.n,rfl,J4,by omega,iu,gh,λl p H5 hw b5 J5 hp=>?_⟩
   refine ⟨js 2 (by decide) |> Jh,λdp fe=>?_⟩
   exact k dp (.put p l) _ (((b3.trans (ba.of s4)).trans b5).trans (ba.of (aD.new fe))) ((J5.same (aD.new fe)).more (by omega)) ⟨aq.of aB,(aD.new fe).ah hp⟩ ⟨hw,j2⟩
end Ab
namespace L2
open PySem
theorem oQ (hK:X.K=K):eT X (.builtin "isinstance") (λxs H Q=>∃ x k,xs = [x,.ty "int"]/\Bw K H x k/\Q (.bl (decide (k=.int∨k=.bl))) H):=by subst hK; exact pY
theorem nG (hK:X.K=K):eT X (.builtin "isinstance") (λxs H Q=>∃ x k,xs = [x,.ty "bool"]/\Bw K H x k/\Q (.bl (decide (k=.bl))) H):=by subst hK; exact oM
theorem oR:eT X (.builtin "isinstance") (λxs H Q=>∃ (a:Addr) (kvs:List (Key×V)),xs = [.ref a,.ty "dict"]/\H a=some (.dK kvs)/\Q (.bl true) H):=by
 intro aa s σ H xs us Q I r h
 obtain ⟨a,kvs,rfl,ha,q⟩:=h
 obtain ⟨u,t,rfl,rx,rt⟩:=rY r
 cases rt
 cases rx
 obtain ⟨o,e,c⟩:=yA I ha
 exact IsiPair.dict_dict e c ⟨.bl true,H,I,rfl,q⟩
end L2
namespace Ab
open PySem L2
theorem aBD (n:Int):bS n []=List.replicate n.toNat 0:=by
 unfold bS
 refine Yu λj=>?_
 by_cases c:j < n.toNat
 ·rw [Qi,vC c,Xh,if_pos c]; rfl
 ·rw [Ju (by rw [Qd,gK]; omega),Ju (by rw [Jj]; omega)]
theorem aAT {n g:Int} (h0:0<=g) (h1:g < n):(bS n hs).set g.toNat (((hs.count g:Nat):Int)+1)=bS n (hs++[g]):=by
 refine Yu λj=>?_
 have ll:∀ hs:List Int,(bS n hs).length=n.toNat:=λhs=>by unfold bS; rw [Qd,gK]
 by_cases c:j < n.toNat
 ·rw [Xd,iS c,iS c,ll]
  by_cases d:g.toNat=j
  ·have e:g=(j:Int):=by omega
   rw [if_pos d,if_pos (by omega),e,Yt,List.count_singleton_self]
   rfl
  ·rw [if_neg d,Yt,Yl.mpr (λz=>d (by have:(j:Int)=g:=(by simpa using z); omega):(j:Int)∉[g])]
   rfl
 ·rw [Ju (by rw [Zk,ll]; omega),Ju (by rw [ll]; omega)]
theorem VB (x:α):∀ n:Nat,(List.replicate n [x]).flatten=List.replicate n x
 | 0=>rfl
 | n+1=>by rw [Xc,Ze,VB x n,Xc]; rfl
theorem rR {kv:Key×V} (h:(cx nums hs)[i]?=some kv):∃ num g,nums[i]?=some num/\hs[i]?=some g/\kv=(.inl num,.int g):=by
 unfold cx at h
 rw [Qi] at h
 obtain ⟨p,hp,e⟩:=Qs.mp h
 rw [Je] at hp
 exact ⟨p.1,p.2,hp.1,hp.2,e.symm⟩
theorem tG (n:Nat):(List.replicate n true).all id=true:=by
 rw [Jv]; intro x hx; rw [(Zq.mp hx).2]; rfl
def lK (K:Rb):Sp:=λvs H Q _=>∃ (p:Addr) (ns:List Int),vs = [.ref p]/\(au K H p (ns.map V.int)∨aq K H p (ns.map V.int))/\ns.length<=1000/\∀ H',aD H H'->Q (.bl true) H'
theorem aC8:af ["some"] ["some"] (aI jD):=.of
theorem aBE (G:Fn K mg "_law_e_whole_in" jD ["some"] f fd) (B:Bl mg):ae P w K mg base ao 1 f fd ["some"] (lK K):=by
 refine G.fn.oK aC8 λbg A outer s H vs Q E hr h=>?_
 ·obtain ⟨p,ns,rfl,hp,hn,k⟩:=h
  rcases hp with hp | hp
  ·refine ⟨_,aJ (aR (aL (kU rfl) rfl B.all xD (aA (gD (own:=["number"]) (fr:=[]) (bo:=[]) (bK (aI jD) ["some"] rfl rfl (by decide +kernel)) rfl (hU (pv 0))
    (λ_ _ _ _=>(aV (i:=0) (show (["number"]:List Str).Nodup by decide +kernel) rfl (Or.inl rfl))) (λ_ _ _ _=>eM)
    (λ_ _ _ _=>oV (aL (oQ (K:=K) rfl) rfl B.isinstance iM (aA (pv 0) (aA (eI (v:=.ty "int") rfl B.int Ei rfl) aC))) (oU (LJ (aL (nG (K:=K) rfl) rfl B.isinstance iM (aA (pv 0) (aA (eI (v:=.ty "bool") rfl B.bool Lo rfl) aC))))))) aC))),?_⟩
   refine ⟨_,rfl,p,rfl,⟨_,hp⟩,aDO (K:=K) (a:=p) (xs:=ns.map V.int) (vs:=(List.replicate ns.length true).map V.bl) (λσ=>∃ v,σ = [v]) (by rw [Qd]; exact hn) (by rw [Qd,Qd,Jj]) hp ⟨none,rfl⟩ ?_ ?_⟩
   ·rintro j y v σ H3 h1 h2 ⟨v0,rfl⟩ s3 Q' hq
    rw [Qi] at h1 h2
    obtain ⟨m,_,rfl⟩:=Qs.mp h1
    obtain ⟨b,hb,rfl⟩:=Qs.mp h2
    have eb:b=true:=(Zq.mp (Qe hb)).2
    subst eb
    exact ⟨_,rfl,_,.int,rfl,rfl,true,rfl,kN ⟨_,rfl,_,.int,rfl,rfl,false,rfl,hq _ _ ⟨_,rfl⟩ (aD.refl _)⟩⟩
   ·intro H3 s3 pc gj
    refine ⟨pc,_,rfl,au.of aB,?_⟩
    rw [tG]
    exact k _ (s3.trans (aD.new gj))
  ·refine ⟨_,aJ (aR (aL (kU rfl) rfl B.all xD (aA (gD (own:=["number"]) (fr:=[]) (bo:=[]) (bK (aI jD) ["some"] rfl rfl (by decide +kernel)) rfl (oX (pv 0))
    (λ_ _ _ _=>(aV (i:=0) (show (["number"]:List Str).Nodup by decide +kernel) rfl (Or.inl rfl))) (λ_ _ _ _=>eM)
    (λ_ _ _ _=>oV (aL (oQ (K:=K) rfl) rfl B.isinstance iM (aA (pv 0) (aA (eI (v:=.ty "int") rfl B.int Ei rfl) aC))) (oU (LJ (aL (nG (K:=K) rfl) rfl B.isinstance iM (aA (pv 0) (aA (eI (v:=.ty "bool") rfl B.bool Lo rfl) aC))))))) aC))),?_⟩
   refine ⟨_,rfl,p,rfl,⟨_,hp⟩,uB (K:=K) (a:=p) (xs:=ns.map V.int) (vs:=(List.replicate ns.length true).map V.bl) (λσ=>∃ v,σ = [v]) (by rw [Qd]; exact hn) (by rw [Qd,Qd,Jj]) hp ⟨none,rfl⟩ ?_ ?_⟩
   ·rintro j y v σ H3 h1 h2 ⟨v0,rfl⟩ s3 Q' hq
    rw [Qi] at h1 h2
    obtain ⟨m,_,rfl⟩:=Qs.mp h1
    obtain ⟨b,hb,rfl⟩:=Qs.mp h2
    have eb:b=true:=(Zq.mp (Qe hb)).2
    subst eb
    exact ⟨_,rfl,_,.int,rfl,rfl,true,rfl,kN ⟨_,rfl,_,.int,rfl,rfl,false,rfl,hq _ _ ⟨_,rfl⟩ (aD.refl _)⟩⟩
   ·intro H3 s3 pc gj
    refine ⟨pc,_,rfl,au.of aB,?_⟩
    rw [tG]
    exact k _ (s3.trans (aD.new gj))
structure Bp (K:Rb) (H:Hp) (wp:Addr) (S:SD) (hs:List Int):Prop where
 at_:H wp=some (.dK (cx S.nums hs))
 len:hs.length=S.nums.length
 rg:∀ g∈hs,0<=g/\g < S.n
theorem Bp.same {wp:Addr} (h:Bp K H wp S hs) (s:aD H H'):Bp K H' wp S hs:=⟨s _ _ h.at_,h.len,h.rg⟩
def qX (K:Rb):Sp:=λvs H Q _=>∃ (sp wp:Addr) (S:SD) (hs:List Int),vs = [.ref sp,.ref wp]/\gu K H sp S/\jb S/\Bp K H wp S hs/\∀ p H',aD H H'->H p=none->H' p=some (.lst ((bS S.n hs).map V.int))->Q (.ref p) H'
theorem vO:af ["state", "where", "found", "number"] ["state", "where"] (aI qN):=.of
set_option maxHeartbeats 1000000 in
theorem aC9 (G:Fn K mg "_law_e_heaps" qN ["state", "where"] f fd) (B:Bl mg):ae P w K mg base ao 1 f fd ["state", "where"] (qX K):=by
 refine G.fn.oK vO λbg A outer s H vs Q E hr h=>?_
 ·obtain ⟨sp,wp,S,hs,rfl,hS,hM,hW,k⟩:=h
  have hu:=bU hr
  refine ⟨_,aE (aX (i:=2) vO.nd rfl (Or.inl rfl) (aY S_ (gT (aA aH aC)) (aQ hu (pv 0) aK (λ_ _=>rfl))))
   (aE (yI (hV PassesOwn.never rfl (qH (pv 1)) (aV (i:=3) vO.nd rfl (Or.inl rfl))
    (aJ (tM (aY eD (bM cM (pv 2) (aQ hu (pv 1) (pv 3) (λ_ _=>rfl)) (λ_ _=>rfl)) aH) (xS (pv 2) (aQ hu (pv 1) (pv 3) (λ_ _=>rfl)) pV)))))
   (aJ (aR (pv 2)))),?_⟩
  obtain ⟨iu,gh,cz,fg⟩:=aZ hM.bk
  have i9:S.nums.length<=12:=by rw [<- hS.wl]; exact cz
  have dk:S.nums.Nodup:=Jd.mpr (hM.up.imp λh=>Jz h)
  have lh:(cx S.nums hs).length=S.nums.length:=oC hW.len
  refine ⟨js 1 (by decide) |> Jh,λp0 AZ=>?_⟩
  have s1:=aD.new (o:=.lst [V.int 0]) AZ
  have e1:upd H p0 (.lst [V.int 0]) p0=some (.lst [V.int 0]):=aB
  generalize upd H p0 (.lst [V.int 0])=H1 at s1 e1 ⊢
  refine ⟨_,rfl,sp,_,rfl,(hS.same s1).dr (k:=.inr "hands") (cS S),p0,S.n,_,rfl,rfl,e1,by omega,by omega,?_,λfp ow=>?_⟩
  ·have:([V.int 0]:List V).length*S.n.toNat < sizeLine:=js _ (by show 1*S.n.toNat < 1000; omega)
   exact Jh this
  dsimp only [bN]
  have jn:H fp=none:=by
   cases e:H fp with
   | none=>rfl
   | some u=>rw [s1 _ _ e] at ow; cases ow
  have s2:=s1.trans (aD.new (o:=.lst (List.replicate S.n.toNat [V.int 0]).flatten) ow)
  have e2:upd H1 fp (.lst (List.replicate S.n.toNat [V.int 0]).flatten) fp=some (.lst ((bS S.n []).map V.int)):=by rw [aB,VB,aBD,List.map_replicate]
  generalize upd H1 fp (.lst (List.replicate S.n.toNat [V.int 0]).flatten)=H2 at s2 e2 ⊢
  have yf:=hW.same s2
  have AN:fp≠wp:=λz=>by rw [z,hW.at_] at jn; cases jn
  refine ⟨_,rfl,wp,_,rfl,yf.at_,λo nf=>?_⟩
  have z3:upd H2 wp (.bq o (.dK (cx S.nums hs))) wp=some (.bq o (.dK (cx S.nums hs))):=aB
  have b3:ba wp H2 (upd H2 wp (.bq o (.dK (cx S.nums hs)))):=ba.at
  have e3:=b3 _ _ AN e2
  generalize upd H2 wp (.bq o (.dK (cx S.nums hs)))=H3 at z3 b3 e3 ⊢
  have bb:bT wp fp fp H H3:=λc u h1 h2 h3 hu=>b3 _ _ h1 (s2 _ _ hu)
  refine uH (a:=wp) (o:=o) (kvs:=cx S.nums hs) (λi σ H4=>∃ v,σ = [some (.ref sp),some (.ref wp),some (.ref fp),v]/\H4 wp=some (.bq o (.dK (cx S.nums hs)))/\H4 fp=some (.lst ((bS S.n (hs.take i)).map V.int))/\bT wp fp fp H H4) ⟨none,rfl,z3,e3,bb⟩ (λi σ H4 _ ⟨_,_,h,_⟩=>h) ?_ ?_
  ·rintro i kv σ H4 ie ⟨v,rfl,z4,e4,b4⟩
   obtain ⟨num,g,cm,hg,rfl⟩:=rR ie
   have gr:=hW.rg g (Qe hg)
   have dg:kF H4 wp (kV (.inl num)) (some (.int g)):=.inl ⟨_,.inl num,.inr ⟨o,z4⟩,rfl,(cJ (f:=V.int) dk cm hg).symm⟩
   have lg:(bS S.n (hs.take i))[g.toNat]?=some (((hs.take i).count g:Nat):Int):=by rw [iS (by omega),show ((g.toNat:Nat):Int)=g by omega]
   have eg:g=((g.toNat:Nat):Int):=by omega
   refine ⟨_,rfl,_,rfl,_,rfl,wp,_,rfl,dg,fp,_,g,.int (((hs.take i).count g:Nat):Int),rfl,rfl,au.of e4,?_,(((hs.take i).count g:Nat):Int),1,rfl,rfl,_,rfl,_,rfl,_,rfl,wp,_,rfl,dg,fp,_,g,g.toNat,rfl,rfl,e4,?_,?_⟩
   ·rw [eg]
    exact gA (by rw [Qi,<- eg,lg]; rfl)
   ·rw [Qd,show (bS S.n (hs.take i)).length=S.n.toNat by unfold bS; rw [Qd,gK]]
    exact SJ gr.1 (by omega)
   ·refine ⟨_,rfl,(aF AN.symm).trans z4,?_,b4.trans bT.a⟩
    obtain ⟨bw,ee⟩:=Qa.mp hg
    rw [aB,Xb bw,ee,<- aAT gr.1 gr.2,List.map_set]
  ·rintro σ H4 ⟨v,rfl,z4,e4,b4⟩
   rw [lh,<- hW.len,Jr] at e4
   refine ⟨wp,o,_,z4,nf,_,rfl,k fp _ (λc u hc=>?_) jn ((aF AN).trans e4)⟩
   by_cases d:c=wp
   ·rw [d] at hc ⊢
    rw [aB,<- hW.at_]; exact hc
   ·have n2:c≠fp:=λz=>by rw [z,jn] at hc; cases hc
    rw [aF d]; exact b4 c u d n2 n2 hc
theorem VA (h:hs.length=nums.length):((cx nums hs).map λkv=>kV kv.1)=nums.map V.int:=by
 unfold cx
 rw [Xv]
 show (nums.zip hs).map (λp=>V.int p.1)=_
 rw [show (λp:Int×Int=>V.int p.1)=V.int ∘ Prod.fst from rfl,<- Xv,List.map_fst_zip (by omega)]
theorem Sg (h:HO.dK S.kv=HO.dK (cx nums hs)):False:=by
 injection h with h
 cases nums with
 | nil=>cases h
 | cons n nums => cases hs with
   | nil=>cases h
   | cons g hs=>cases h
theorem xL {a b c:List Int} (h1:a.Perm c) (h2:b.Perm c) (p1:a.Pairwise (·<=·)) (p2:b.Pairwise (·<=·)):a=b :=
 (h1.trans h2.symm).eq_of_pairwise (λx y _ _ h h'=>Int.le_antisymm h h') p1 p2
def xM (K:Rb):Sp:=λvs H Q _=>∃ (sp wp:Addr) (S:SD) (hs:List Int),vs = [.ref sp,.ref wp]/\gu K H sp S/\jb S/\Bp K H wp S hs/\(∀ (i:Nat) g l,hs[i]?=some g->S.ws[i]?=some l->g∈l)/\wp≠S.ap/\∀ H',aD H H'->Q (.bl true) H'
theorem aDa:af ["state", "where"] ["state", "where"] (aI nE):=.of
set_option maxHeartbeats 1000000 in
theorem aBF (G:Fn K mg "_law_e_is_deal" nE ["state", "where"] f fd) (B:Bl mg) (Ap:Fn K mg "_law_e_whole_in" jD ["some"] fW dW) (Ak:ae P w K mg base ao 1 fW dW ["some"] (lK K)):ae P w K mg base ao 2 f fd ["state", "where"] (xM K):=by
 refine G.fn.oK aDa λbg A outer s H vs Q E hr h=>?_
 ·obtain ⟨sp,wp,S,hs,rfl,hS,hM,hW,rh,zj,k⟩:=h
  have hu:=bU hr
  have r1:aj 1 _:=hr
  refine ⟨_,aE (bI (PW.pt (fZ (bV (bL (aL oR rfl B.isinstance iM (aA (pv 1) (aA (eI (v:=.ty "dict") rfl B.dict LF rfl) aC))))) (eV (aP (Lu hr.FD) (aL (eR rfl) rfl B.sorted lC (aA (pv 1) aC)) (aL (eR rfl) rfl B.sorted lC (aA (aQ hu (pv 0) aK (λ_ _=>rfl)) aC)) (aU _))))) (aJ (aR fY)) aS)
   (aE (bI (bV (bL (aW Ap Ak r1 rfl (aA (aY iB (cR (jL rfl) rfl B.list pE (aA (pv 1) aC)) (cR (uP rfl) rfl B.list pE (aA (tU Ti Th Tq lB (pv 1)) aC))) aC)))) (aJ (aR fY)) aS)
   (aJ (aR (aL (kU rfl) rfl B.all xD (aA (mY (own:=["number"]) (fr:=[0,1]) (bo:=["state", "where"]) (bK (aI nE) ["state", "where"] rfl rfl (by decide +kernel)) rfl (pv 1)
     (λ_ _ _ _=>(aV (i:=0) (show (["number", "state", "where"]:List Str).Nodup by decide +kernel) rfl (Or.inl rfl))) (λ_ _ _ _=>eM)
     (λ_ _ _ _=>(gN (gY (K:=K) rfl) (aQ hu (pv 2) (pv 0) (λ_ _=>rfl)) (aQ hu (aQ hu (pv 1) aK (λ_ _=>rfl)) (pv 0) (λ_ _=>rfl)) (by with_unfolding_all rfl)))) aC))))),?_⟩
  obtain ⟨iu,gh,cz,fg⟩:=aZ hM.bk
  have i9:S.nums.length<=12:=by rw [<- hS.wl]; exact cz
  have dk:S.nums.Nodup:=Jd.mpr (hM.up.imp λh=>Jz h)
  have lh:(cx S.nums hs).length=S.nums.length:=oC hW.len
  refine kM false (vN (b:=false) (c:=false) (λQ' q=>⟨_,rfl,wp,_,rfl,hW.at_,true,rfl,q _ (aD.refl _)⟩) (λ_ H1 s1 Q' q=>?_)) (λhb=>by cases hb) (λ_ H1 s1=>?_)
  ·refine ⟨_,rfl,wp,_,S.nums,rfl,.inl (hW.same s1).at_,VA hW.len,by omega,λp ms hp ZN pm=>?_⟩
   have s2:=aD.new (o:=.lst (ms.map V.int)) hp
   have ep:upd H1 p (.lst (ms.map V.int)) p=some (.lst (ms.map V.int)):=aB
   generalize upd H1 p (.lst (ms.map V.int))=H2 at s2 ep ⊢
   have og:=hS.same (s1.trans s2)
   refine ⟨_,rfl,sp,_,rfl,og.dr (k:=.inr "able") (cX S),S.ap,_,S.nums,rfl,.inl og.ai,jG hS.tl,by omega,λp' YX F8 MU X1=>?_⟩
   have em:YX=ms:=xL MU ZN X1 pm
   rw [em]
   have s3:=aD.new (o:=.lst (ms.map V.int)) F8
   refine ⟨.list (ms.map .int),.list (ms.map .int),nM.mpr ⟨p,rfl,au.of (s3 _ _ ep)⟩,nM.mpr ⟨p',rfl,au.of aB⟩,jE _,jE _,gZ _,gZ _,_,rfl,?_⟩
   rw [Ug _ (SeqAt.canLay_of_shaped (gZ _))]
   exact q _ (s2.trans s3)
  dsimp only [jS]
  refine kM false (sJ (b:=true) λQ' q=>?_) (λhb=>by cases hb) (λ_ H2 s2=>?_)
  ·have Pe:=hW.same s1
   refine ⟨_,rfl,wp,_,rfl,.inl Pe.at_,λp hp=>?_⟩
   rw [VA hW.len]
   have s2:=aD.new (o:=.lst (S.nums.map V.int)) hp
   have ep:upd H1 p (.lst (S.nums.map V.int)) p=some (.lst (S.nums.map V.int)):=aB
   generalize upd H1 p (.lst (S.nums.map V.int))=H2 at s2 ep ⊢
   have yf:=Pe.same s2
   refine ⟨_,rfl,.inr (.inr (.inl ⟨rfl,.inl ⟨_,yf.at_⟩⟩)),wp,_,rfl,rfl,.inl yf.at_,λv hv=>⟨v,wp,_,rfl,aB,.inl ((aD.new hv) _ _ yf.at_),λp2 ot=>?_⟩⟩
   rw [VE hW.len]
   have s3:=(aD.new (o:=jw v wp) hv).trans (aD.new (o:=.lst (hs.map V.int)) ot)
   have QY:upd (upd H2 v (jw v wp)) p2 (.lst (hs.map V.int)) p2=some (.lst (hs.map V.int)):=aB
   generalize upd (upd H2 v (jw v wp)) p2 (.lst (hs.map V.int))=H3 at s3 QY ⊢
   refine ⟨p,p2,_,_,rfl,rfl,s3 _ _ ep,QY,?_,λp3 zq=>?_⟩
   ·have:(S.nums.map V.int).length+(hs.map V.int).length < sizeLine:=js _ (by rw [Qd,Qd,hW.len]; omega)
    exact Jh this
   rw [<- Qw]
   have s4:=aD.new (o:=.lst ((S.nums++hs).map V.int)) zq
   refine ⟨p3,S.nums++hs,rfl,.inl (au.of aB),by rw [Qg,hW.len]; omega,λH4 s5=>⟨true,rfl,q _ ?_⟩⟩
   exact ((s2.trans s3).trans s4).trans s5
  dsimp only [jS]
  have md:=s1.trans s2
  have og:=hS.same md
  have yf:=hW.same md
  refine ⟨_,rfl,wp,_,rfl,yf.at_,λo=>?_⟩
  have z3:upd H2 wp (.bq o (.dK (cx S.nums hs))) wp=some (.bq o (.dK (cx S.nums hs))):=aB
  have b3:ba wp H2 (upd H2 wp (.bq o (.dK (cx S.nums hs)))):=ba.at
  have HX:sp≠wp:=λz=>by have:=hS.st; rw [z,hW.at_] at this; exact Sg (Option.some.inj this).symm
  have xg:=b3 _ _ HX og.st
  have a3:=b3 _ _ zj.symm og.ai
  refine nR (a:=wp) (o:=o) (kvs:=cx S.nums hs) (λσ=>∃ u,σ = [u,some (.ref sp),some (.ref wp)]) (λi ys H4=>ys=(List.replicate i true).map V.bl/\H4=upd H2 wp (.bq o (.dK (cx S.nums hs)))) (iI (by omega)) ⟨none,rfl⟩ ⟨rfl,rfl⟩ (λi ys H4 h=>by rw [h.1,Qd,Jj]; exact Qh _) (λi ys H4 h=>by rw [h.2]; exact z3) ?_ ?_
  ·rintro i ys σ kv H4 ie ⟨u,rfl⟩ ⟨rfl,rfl⟩ hz
   obtain ⟨num,g,cm,hg,rfl⟩:=rR ie
   have hi:i < S.nums.length:=(Qa.mp cm).1
   obtain ⟨l,hl⟩:∃ l,S.ws[i]?=some l:=⟨_,Qb (by rw [hS.wl]; exact hi)⟩
   obtain ⟨t',qa⟩:∃ t',S.ts[i]?=some t':=⟨_,Qb (by rw [hS.tl]; exact hi)⟩
   have j9:aq K (upd H2 wp (.bq o (.dK (cx S.nums hs)))) t' (l.map V.int):=b3.iw yf.at_ (og.tup i t' l qa hl)
   refine cQ ?_
   refine ⟨_,rfl,_,rfl,wp,_,rfl,.inl ⟨_,.inl num,.inr ⟨o,z3⟩,rfl,(cJ (f:=V.int) dk cm hg).symm⟩,_,rfl,sp,_,rfl,.inl ⟨S.kv,.inr "able",.inl xg,rfl,(cX S).symm⟩,_,rfl,S.ap,.ref t',rfl,.inl ⟨_,.inl num,.inl a3,rfl,(cJ dk cm qa).symm⟩,t',_,rfl,.inr j9,rfl,jQ _,hz,⟨_,rfl⟩,?_,rfl⟩
   rw [Ya,Qw]
   show _++[V.bl (uf (.int g) (l.map V.int))]=_
   rw [qS,decide_eq_true (rh i g l hg hl)]; rfl
  ·rintro ys H4 ⟨rfl,rfl⟩ pc gj
   have pz:pc≠wp:=λz=>by rw [z,z3] at gj; cases gj
   refine ⟨pc,List.replicate (cx S.nums hs).length true,rfl,au.of (by rw [aF pz,aB]),?_⟩
   rw [tG]
   refine k _ λb' u d9=>?_
   have oa:=md _ _ d9
   by_cases c:b'=wp
   ·rw [c] at oa ⊢
    rw [aB,<- yf.at_]; exact oa
   ·have n2:b'≠pc:=λz=>by rw [aF pz] at gj; rw [z,gj] at oa; cases oa
    rw [aF c,aF n2,aF c]; exact oa
def vP (K:Rb):Sp:=λvs H Q _=>∃ (sp wp p:Addr) (S:SD) (hs lv:List Int),vs = [.ref sp,.ref wp,.ref p]/\gu K H sp S/\jb S/\Bp K H wp S hs/\wp≠S.ap/\aq K H p (lv.map V.int)/\nF S.n S.ws hs lv/\∀ H',aD H H'->Q (.bl true) H'
theorem vQ:af ["state", "where", "heights", "heaps", "number"] ["state", "where", "heights"] (aI lU):=.of
set_option maxHeartbeats 1000000 in
theorem aDb (G:Fn K mg "_law_e_are_levels" lU ["state", "where", "heights"] f fd) (B:Bl mg) (Ap:Fn K mg "_law_e_whole_in" jD ["some"] fW dW) (Ak:ae P w K mg base ao 1 fW dW ["some"] (lK K)) (L_:Fn K mg "_law_e_heaps" qN ["state", "where"] fH dH) (LU:ae P w K mg base ao 1 fH dH ["state", "where"] (qX K)):ae P w K mg base ao 2 f fd ["state", "where", "heights"] (vP K):=by
 refine G.fn.oK vQ λbg A outer s H vs Q E hr h=>?_
 ·obtain ⟨sp,wp,p,S,hs,lv,rfl,hS,hM,hW,zj,hp,i?,k⟩:=h
  have hu:=bU hr
  have r1:aj 1 _:=hr
  refine ⟨_,aE (aX (i:=3) vQ.nd rfl (Or.inr rfl) (aW L_ LU r1 rfl (aA (pv 0) (aA (pv 1) aC))))
   (aE (bI (PW.pt (fZ (bV (bL (aL cW rfl B.isinstance iM (aA (pv 2) (aA (eI (v:=.ty "tuple") rfl B.tuple gE rfl) aC))))) (fZ (aP oJ (aL bB rfl B.len eP (aA (pv 2) aC)) (aL bB rfl B.len eP (aA (pv 3) aC)) (aU _)) (eV (bV (bL (aW Ap Ak r1 rfl (aA (pv 2) aC)))))))) (aJ (aR fY)) aS)
   (aE (bI (bL (aL (kZ rfl) rfl B.any xH (aA (gD (own:=["hand"]) (fr:=[3,2]) (bo:=["heaps", "heights"]) (bK (aI lU) ["state", "where", "heights", "heaps", "number"] rfl rfl (by decide +kernel)) rfl (dZ rfl B.range (aA (aL bB rfl B.len eP (aA (pv 3) aC)) aC))
    (λ_ _ _ _=>(aV (i:=0) (show (["hand", "heaps", "heights"]:List Str).Nodup by decide +kernel) rfl (Or.inl rfl))) (λ_ _ _ _=>eM)
    (λ_ _ _ _=>(gN (wF (K:=K) rfl) (aY fP (bM (aDQ (K:=K) rfl) (pv 1) (pv 0) (λ_ _=>rfl)) (bM (yV (K:=K) rfl) (pv 2) (pv 0) (λ_ _=>rfl))) (cB (aA aH (aA aH aC))) (by with_unfolding_all rfl)))) aC))) (aJ (aR fY)) aS)
   (aE (yI (hV PassesOwn.never rfl (qH (pv 1)) (aV (i:=4) vQ.nd rfl (Or.inr rfl)) (aJ (bI (bL (aL (kZ rfl) rfl B.any xH (aA (gD (own:=["hand"]) (fr:=[2,1,4]) (bo:=["heights", "where", "number"]) (bK (aI lU) ["state", "where", "heights", "heaps", "number"] rfl rfl (by decide +kernel)) rfl (oX (aQ hu (aQ hu (pv 0) aK (λ_ _=>rfl)) (pv 4) (λ_ _=>rfl)))
    (λ_ _ _ _=>(aV (i:=0) (show (["hand", "heights", "where", "number"]:List Str).Nodup by decide +kernel) rfl (Or.inl rfl))) (λ_ _ _ _=>eM)
    (λ_ _ _ _=>(gN mM (bM (yV (K:=K) rfl) (pv 1) (aQ hu (pv 2) (pv 3) (λ_ _=>rfl)) (λ_ _=>rfl)) (bM (yV (K:=K) rfl) (pv 1) (pv 0) (λ_ _=>rfl)) (aU _)))) aC))) (aJ (aR fY)) aS))))
   (aJ (aR fY))))),?_⟩
  obtain ⟨iu,gh,cz,fg⟩:=aZ hM.bk
  have i9:S.nums.length<=12:=by rw [<- hS.wl]; exact cz
  have dk:S.nums.Nodup:=Jd.mpr (hM.up.imp λh=>Jz h)
  have lh:(cx S.nums hs).length=S.nums.length:=oC hW.len
  obtain ⟨Cy,Z3,Z1⟩:=aC3 i?
  have ll:(bS S.n hs).length=S.n.toNat:=by unfold bS; rw [Qd,gK]
  have BI:∀ h:Int,0<=h->h < S.n->∃ v,lv[h.toNat]?=some v/\qj (lv.map V.int) h=some (.int v):=λh h0 h1=>by
   have ev:lv[h.toNat]?=some lv[h.toNat]:=Qb (by omega)
   have z:=gA (xs:=lv.map V.int) (j:=h.toNat) (v:=.int lv[h.toNat]) (by rw [Qi,ev]; rfl)
   rw [show ((h.toNat:Nat):Int)=h by omega] at z
   exact ⟨_,ev,z⟩
  refine ⟨_,rfl,_,rfl,sp,wp,S,hs,rfl,hS,hM,hW,λq H1 s1 nq e1=>?_⟩
  dsimp only [bN]
  refine kM false (vN (b:=false) (c:=false) (λQ' h=>⟨_,rfl,_,.tup,rfl,.inr (.inl ⟨rfl,_,s1.ah hp⟩),true,rfl,h _ (aD.refl _)⟩) (λ_ H2 s2=>vN (b:=false) (c:=false) (λQ' h=>⟨_,rfl,p,_,rfl,.inr (s2.ah (s1.ah hp)),_,rfl,q,_,rfl,.inl (au.of (s2 _ _ e1)),rfl,false,?_,h _ (aD.refl _)⟩) (λ_ H3 s3=>sJ (b:=true) λQ' h=>⟨_,rfl,p,lv,rfl,.inr (s3.ah (s2.ah (s1.ah hp))),by omega,λH4 s4=>⟨true,rfl,h _ s4⟩⟩))) (λhb=>by cases hb) (λ_ H2 s2=>?_)
  ·rw [Qd,Qd,ll,Cy,show (!decide (V.int (S.n.toNat:Nat)=V.int (S.n.toNat:Nat)))=false by simp]
  dsimp only [jS]
  have Cp:=s1.trans s2
  have e2:=s2 _ _ e1
  have ot:=Cp.ah hp
  refine kM false (λQ' h=>?_) (λhb=>by cases hb) (λ_ H3 s3=>?_)
  ·refine ⟨_,rfl,q,_,rfl,.inl (au.of e2),_,rfl,by rw [Qd,ll]; omega,by rw [Qd,ll]; omega,aDP (lo:=0) (n:=((((bS S.n hs).map V.int).length:Int)).toNat) (vs:=(List.replicate ((((bS S.n hs).map V.int).length:Int)).toNat false).map V.bl) (λσ=>∃ v,σ = [v,some (.ref q),some (.ref p)]) (by rw [Qd,ll]; omega) (by rw [Qd,Jj]) ⟨none,rfl⟩ ?_ ?_⟩
   ·rintro i v σ H3 hi hv ⟨v0,rfl⟩ s3 Q2 Kk
    rw [Qd,ll] at hi
    have ev:v=.bl false:=by
     obtain ⟨b,hb,rfl⟩:∃ b,b∈List.replicate ((((bS S.n hs).map V.int).length:Int)).toNat false/\V.bl b=v:=Xu.mp (Qe hv)
     rw [List.eq_of_mem_replicate hb]
    subst ev
    have i0:(0:Int)<=0+(i:Int):=by omega
    have i1:0+(i:Int) < S.n:=by omega
    obtain ⟨u,ZD,ZC⟩:=BI _ i0 i1
    obtain ⟨m1,m2⟩:=Z3 _ u ZD
    rw [show (((0+(i:Int)).toNat:Nat):Int)=0+(i:Int) by omega] at m1 m2
    refine ⟨_,rfl,_,rfl,q,_,_,_,rfl,rfl,au.of (s3 _ _ e2),lJ i0 i1,_,rfl,_,rfl,p,_,_,_,rfl,rfl,s3.ah ot,ZC,_,_,rfl,rfl,i5 _ _,λz hz=>⟨z,_,rfl,.inr (aq.of aB),rfl,rfl,?_⟩⟩
    have rh:uf (.int (((hs.count (0+(i:Int)):Nat):Int) - u)) [.int 0,.int 1]=true:=by
     have e:=yU (((hs.count (0+(i:Int)):Nat):Int) - u) [0,1]
     have:((hs.count (0+(i:Int)):Nat):Int) - u=0∨((hs.count (0+(i:Int)):Nat):Int) - u=1:=by omega
     refine e.trans ?_
     rcases this with z | z <;> rw [z] <;> rfl
    rw [rh]
    exact Kk _ _ ⟨_,rfl⟩ (aD.new hz)
   ·rintro H3 s3 z hz
    refine ⟨z,_,rfl,au.of aB,false,?_,h _ (s3.trans (aD.new hz))⟩
    rw [show (List.replicate ((((bS S.n hs).map V.int).length:Int)).toNat false).any id=false by simp]
  dsimp only [jS]
  have zh:=Cp.trans s3
  have oy:=hS.same zh
  have Gg:=hW.same zh
  have zq:=zh.ah hp
  refine ⟨_,rfl,wp,_,rfl,Gg.at_,λo nf=>?_⟩
  have z4:upd H3 wp (.bq o (.dK (cx S.nums hs))) wp=some (.bq o (.dK (cx S.nums hs))):=aB
  have b4:ba wp H3 (upd H3 wp (.bq o (.dK (cx S.nums hs)))):=ba.at
  have HX:sp≠wp:=λz=>by have:=hS.st; rw [z,hW.at_] at this; exact Sg (Option.some.inj this).symm
  have NQ:=b4 _ _ HX oy.st
  have a4:=b4 _ _ zj.symm oy.ai
  have p4:=b4.iw Gg.at_ zq
  have NM:∀ (i:Nat) t l,S.ts[i]?=some t->S.ws[i]?=some l->aq K (upd H3 wp (.bq o (.dK (cx S.nums hs)))) t (l.map V.int):=λi t l a b=>b4.iw Gg.at_ (oy.tup i t l a b)
  generalize upd H3 wp (.bq o (.dK (cx S.nums hs)))=H4 at z4 b4 NQ a4 p4 NM ⊢
  refine uH (a:=wp) (o:=o) (kvs:=cx S.nums hs) (λi σ H5=>(∃ v,σ = [some (.ref sp),some (.ref wp),some (.ref p),some (.ref q),v])/\aD H4 H5) ⟨⟨none,rfl⟩,aD.refl _⟩ (λi σ H5 _ h=>h.2 _ _ z4) ?_ ?_
  ·rintro i kv σ H5 ie ⟨⟨v,rfl⟩,s5⟩
   obtain ⟨num,g,cm,hg,rfl⟩:=rR ie
   have hi:i < S.nums.length:=(Qa.mp cm).1
   obtain ⟨l,hl⟩:∃ l,S.ws[i]?=some l:=⟨_,Qb (by rw [hS.wl]; exact hi)⟩
   obtain ⟨t',qa⟩:∃ t',S.ts[i]?=some t':=⟨_,Qb (by rw [hS.tl]; exact hi)⟩
   have gr:=hW.rg g (Qe hg)
   obtain ⟨ug,ZA,MQ⟩:=BI g gr.1 gr.2
   obtain ⟨w1,w2,w3⟩:=bA (fg l (Qe hl))
   have l6:=iR (by omega) w2 w3
   have j9:=s5.ah (NM i t' l qa hl)
   dsimp only [bN]
   refine kM false (λQ' h=>?_) (λhb=>by cases hb) (λ_ H6 s6=>⟨⟨_,rfl⟩,s5.trans s6⟩)
   refine ⟨_,rfl,sp,_,rfl,.inl ⟨S.kv,.inr "able",.inl (s5 _ _ NQ),rfl,(cX S).symm⟩,_,rfl,S.ap,.ref t',rfl,.inl ⟨_,.inl num,.inl (s5 _ _ a4),rfl,(cJ dk cm qa).symm⟩,t',rfl,⟨_,j9⟩,uB (K:=K) (a:=t') (xs:=l.map V.int) (vs:=(List.replicate l.length false).map V.bl) (λσ=>∃ v,σ = [v,some (.ref p),some (.ref wp),some (.int num)]) (by rw [Qd]; omega) (by rw [Qd,Jj,Qd]) j9 ⟨none,rfl⟩ ?_ ?_⟩
   ·rintro j y v2 σ H6 h1 h2 ⟨v0,rfl⟩ s6 Q2 Kk
    rw [Qi] at h1 h2
    obtain ⟨m,hm,rfl⟩:=Qs.mp h1
    obtain ⟨b,hb,rfl⟩:=Qs.mp h2
    have eb:b=false:=(Zq.mp (Qe hb)).2
    subst eb
    have mr:=w2 m (Qe hm)
    obtain ⟨um,Y_,MP⟩:=BI m mr.1 mr.2
    have HL:=s5.trans s6
    refine ⟨_,rfl,_,rfl,_,rfl,wp,_,rfl,.inl ⟨_,.inl num,.inr ⟨o,HL _ _ z4⟩,rfl,(cJ (f:=V.int) dk cm hg).symm⟩,p,_,g,_,rfl,rfl,HL.ah p4,MQ,_,rfl,_,rfl,p,_,m,_,rfl,rfl,HL.ah p4,MP,ug,um,rfl,rfl,?_⟩
    have le:ug<=um:=by
     have eg:((g.toNat:Nat):Int)=g:=by omega
     have em:((m.toNat:Nat):Int)=m:=by omega
     exact Z1 i g.toNat l (by rw [eg]; exact hg) hl m.toNat (by rw [em]; exact Qe hm) ug um ZA Y_
    dsimp only
    rw [show decide (um < ug)=false from decide_eq_false (by omega)]
    exact Kk _ _ ⟨_,rfl⟩ (aD.refl _)
   ·intro H6 s6 pc gj
    refine ⟨pc,_,rfl,au.of aB,false,?_,h _ (s6.trans (aD.new gj))⟩
    rw [show (List.replicate l.length false).any id=false by simp]
  ·rintro σ H5 ⟨⟨v,rfl⟩,s5⟩
   refine ⟨wp,o,_,s5 _ _ z4,nf,?_⟩
   refine k _ λc u hc=>?_
   have J_:=zh _ _ hc
   by_cases d:c=wp
   ·rw [d] at J_ ⊢
    rw [aB,<- Gg.at_]; exact J_
   ·rw [aF d]; exact s5 _ _ (b4 _ _ d J_)
inductive Wd where
 | de | i7 | f9 | levels | moved
 deriving DecidableEq
def Wd.str:Wd->Str
 | .de => "works" | .i7 => "deal" | .f9 => "loads" | .levels => "levels" | .moved => "moved"
def jN (K:Rb) (D:DD) (H0 H:Hp):Wd->V->Prop
 | .de,v=>∃ p ts,v=.ref p/\H0 p=none/\H p=some (.dK (a_ D.nums ts))/\ts.length=D.nums.length/\∀ (i:Nat) t l,ts[i]?=some t->D.ws[i]?=some l->aq K H t (l.map V.int)
 | .i7,v=>∃ p,v=.ref p/\H0 p=none/\H p=some (.dK (cx D.nums D.hs))
 | .f9,v=>∃ p,v=.ref p/\aq K H p ((bS D.n D.hs).map V.int)
 | .levels,v=>∃ p lv,v=.ref p/\aq K H p (lv.map V.int)/\nF D.n D.ws D.hs lv
 | .moved,v=>∃ p,v=.ref p/\aq K H p [.int D.ml,.int D.ma]
def NT (H:Hp) (c:Addr):Prop:=(∀ xs,H c≠some (.tup xs))/\∀ o xs,H c≠some (.bq o (.tup xs))
theorem NT.lst (h:H c=some (.lst xs)):NT H c:=⟨λ_ z=>(by rw [h] at z; cases z),λ_ _ z=>(by rw [h] at z; cases z)⟩
theorem NT.dK {xs:List (Key×V)} (h:H c=some (.dK xs)):NT H c:=⟨λ_ z=>(by rw [h] at z; cases z),λ_ _ z=>(by rw [h] at z; cases z)⟩
theorem NT.ins {fs:List (Str×V)} (h:H c=some (.ins C dx fs)):NT H c:=⟨λ_ z=>(by rw [h] at z; cases z),λ_ _ z=>(by rw [h] at z; cases z)⟩
theorem bT.uc {x a b:Addr} (e:bT x a b H H') (hx:NT H x) (ha:NT H a) (hb:NT H b) (h:aq K H p xs):aq K H' p xs:=by
 rcases h with (h | ⟨o,h⟩) | h
 ·exact .inl (.inl (e p _ (λz=>hx.1 _ (z ▸ h)) (λz=>ha.1 _ (z ▸ h)) (λz=>hb.1 _ (z ▸ h)) h))
 ·exact .inl (.inr ⟨o,e p _ (λz=>hx.2 _ _ (z ▸ h)) (λz=>ha.2 _ _ (z ▸ h)) (λz=>hb.2 _ _ (z ▸ h)) h⟩)
 ·exact .inr h
theorem jN.keep {x a b:Addr} (e:bT x a b H H') (hx:NT H x) (ha:NT H a) (hb:NT H b) (nx:H0 x≠none) (na:H0 a≠none) (nb:H0 b≠none):∀ {wd:Wd} {v:V},jN K D H0 H wd v->jN K D H0 H' wd v
 | .de,v,⟨p,ts,h1,h2,h3,h4,h5⟩=>⟨p,ts,h1,h2,e p _ (λz=>nx (z ▸ h2)) (λz=>na (z ▸ h2)) (λz=>nb (z ▸ h2)) h3,h4,λi t l q1 q2=>e.uc hx ha hb (h5 i t l q1 q2)⟩
 | .i7,v,⟨p,h1,h2,h3⟩=>⟨p,h1,h2,e p _ (λz=>nx (z ▸ h2)) (λz=>na (z ▸ h2)) (λz=>nb (z ▸ h2)) h3⟩
 | .f9,v,⟨p,h1,h2⟩=>⟨p,h1,e.uc hx ha hb h2⟩
 | .levels,v,⟨p,lv,h1,h2,h3⟩=>⟨p,lv,h1,e.uc hx ha hb h2,h3⟩
 | .moved,v,⟨p,h1,h2⟩=>⟨p,h1,e.uc hx ha hb h2⟩
theorem jN.same (e:aD H H'):∀ {wd:Wd} {v:V},jN K D H0 H wd v->jN K D H0 H' wd v
 | .de,v,⟨p,ts,h1,h2,h3,h4,h5⟩=>⟨p,ts,h1,h2,e p _ h3,h4,λi t l q1 q2=>e.ah (h5 i t l q1 q2)⟩
 | .i7,v,⟨p,h1,h2,h3⟩=>⟨p,h1,h2,e p _ h3⟩
 | .f9,v,⟨p,h1,h2⟩=>⟨p,h1,e.ah h2⟩
 | .levels,v,⟨p,lv,h1,h2,h3⟩=>⟨p,lv,h1,e.ah h2,h3⟩
 | .moved,v,⟨p,h1,h2⟩=>⟨p,h1,e.ah h2⟩
theorem jN.old (e:∀ c,H1 c=none->H0 c=none):∀ {wd:Wd} {v:V},jN K D H1 H wd v->jN K D H0 H wd v
 | .de,v,⟨p,ts,h1,h2,h3,h4,h5⟩=>⟨p,ts,h1,e p h2,h3,h4,h5⟩
 | .i7,v,⟨p,h1,h2,h3⟩=>⟨p,h1,e p h2,h3⟩
 | .f9,v,⟨p,h1,h2⟩=>⟨p,h1,h2⟩
 | .levels,v,⟨p,lv,h1,h2,h3⟩=>⟨p,lv,h1,h2,h3⟩
 | .moved,v,⟨p,h1,h2⟩=>⟨p,h1,h2⟩
def Sf (K:Rb) (C Pl:Addr):Sp:=λvs H Q _=>∃ (x:Addr) (D:DD) (wd:Wd),vs = [.ref x,.str wd.str]/\ft K H C x D/\km D/\H Pl=some (.tab qR)/\∀ v H',aD H H'->jN K D H H' wd v->Q v H'
theorem aIb:af ["dealing", "word"] ["dealing", "word"] (aI GU):=.of
set_option maxHeartbeats 1000000 in
theorem aHk {Gw Gy Kv Kx Gx:Addr} {GI GL KO KQ GJ:FuncData} (G:Fn K mg "_law_e_ask" GU ["dealing", "word"] f fd) (T:Dc K C) (V6:Mt K C "works" pG ["self"] Gw GI) (LM:ae P w K mg base ao 1 Gw GI ["self"] (vL K C)) (Ww:Mt K C "deal" Eg ["self"] Gy GL) (LX:ae P w K mg base ao 1 Gy GL ["self"] (zI K C)) (V8:Mt K C "loads" rH ["self"] Kv KO) (Hg:ae P w K mg base ao 2 Kv KO ["self"] (vJ K C)) (V':Mt K C "levels" qK ["self"] Kx KQ) (LS:ae P w K mg base ao 9 Kx KQ ["self"] (xI K C Pl)) (V7:Mt K C "moved" uX ["self"] Gx GJ) (LR:ae P w K mg base ao 1 Gx GJ ["self"] (zH K C)):ae P w K mg base ao 10 f fd ["dealing", "word"] (Sf K C Pl):=by
 refine G.fn.oK aIb λbg A outer s H vs Q E hr h=>?_
 ·obtain ⟨x,D,wd,rfl,hD,hM,hT,k⟩:=h
  have r9:aj 9 _:=hr
  have r1:aj 1 _:=hr.mono (by decide)
  have r2:aj 2 _:=hr.mono (by decide)
  refine ⟨_,aE (bI (aP dX (pv 1) aK (aU _)) (aJ (aR (cV (pv 0) T.cl V6.me LM r1 V6.bd .nil gH))) aS)
   (aE (bI (aP dX (pv 1) aK (aU _)) (aJ (aR (cV (pv 0) T.cl Ww.me LX r1 Ww.bd .nil gH))) aS)
   (aE (bI (aP dX (pv 1) aK (aU _)) (aJ (aR (cV (pv 0) T.cl V8.me Hg r2 V8.bd .nil gH))) aS)
   (aE (bI (aP dX (pv 1) aK (aU _)) (aJ (aR (cV (pv 0) T.cl V'.me LS r9 V'.bd .nil gH))) aS)
   (aJ (aR (cV (pv 0) T.cl V7.me LR r1 V7.bd .nil gH)))))),?_⟩
  obtain ⟨iu,gh,_,_⟩:=aZ hM.bk
  have F:∀ {a b:Str},a≠b->decide (V.str a=V.str b)=false:=mB
  cases wd with
  | de =>
   refine ⟨_,rfl,rfl,_,rfl,eG qV ?_⟩
   refine ⟨_,rfl,x,D.dx,_,rfl,hD.ins,rfl,x,D,rfl,hD,hM,λp ts H' s1 h0 h1 h2 h3=>k _ H' s1 ⟨p,ts,rfl,h0,h1,h2,h3⟩⟩
  | i7 =>
   refine ⟨_,rfl,rfl,_,rfl,bJ (F (by decide +kernel)) ⟨_,rfl,rfl,_,rfl,eG qV ?_⟩⟩
   refine ⟨_,rfl,x,D.dx,_,rfl,hD.ins,rfl,x,D,rfl,hD,λp hp=>k _ _ (aD.new hp) ⟨p,rfl,hp,aB⟩⟩
  | f9 =>
   refine ⟨_,rfl,rfl,_,rfl,bJ (F (by decide +kernel)) ⟨_,rfl,rfl,_,rfl,bJ (F (by decide +kernel)) ⟨_,rfl,rfl,_,rfl,eG qV ?_⟩⟩⟩
   refine ⟨_,rfl,x,D.dx,_,rfl,hD.ins,rfl,x,D,rfl,hD,by omega,gh,λp H' s1 hp=>k _ H' s1 ⟨p,rfl,aq.of hp⟩⟩
  | levels =>
   refine ⟨_,rfl,rfl,_,rfl,bJ (F (by decide +kernel)) ⟨_,rfl,rfl,_,rfl,bJ (F (by decide +kernel)) ⟨_,rfl,rfl,_,rfl,bJ (F (by decide +kernel)) ⟨_,rfl,rfl,_,rfl,eG qV ?_⟩⟩⟩⟩
   refine ⟨_,rfl,x,D.dx,_,rfl,hD.ins,rfl,x,D,rfl,hD,hM,hT,λp lv H' s1 hp L=>k _ H' s1 ⟨p,lv,rfl,aq.of hp,L⟩⟩
  | moved =>
   refine ⟨_,rfl,rfl,_,rfl,bJ (F (by decide +kernel)) ⟨_,rfl,rfl,_,rfl,bJ (F (by decide +kernel)) ⟨_,rfl,rfl,_,rfl,bJ (F (by decide +kernel)) ⟨_,rfl,rfl,_,rfl,bJ (F (by decide +kernel)) ?_⟩⟩⟩⟩
   refine ⟨_,rfl,x,D.dx,_,rfl,hD.ins,rfl,x,D,rfl,hD.ins,λp hp=>k _ _ (aD.new hp) ⟨p,rfl,aq.of aB⟩⟩
def ub (ls:List Wd):PyData:=.list (ls.map λwd=>.str wd.str)
theorem aHl {a b:Wd} (h:(Sum.inr a.str:Key)=.inr b.str):a=b:=by
 have h':a.str=b.str:=by injection h
 revert h'
 cases a <;> cases b <;> decide +kernel
theorem xN (f:α->β):∀ (l:List α) (k:Nat),(l.map f).eraseIdx k=(l.eraseIdx k).map f
 | [],_=>rfl
 | _::_,0=>rfl
 | x::l,k+1=>by rw [Qz,Xw,Xw,Qz,xN f l k]
theorem c9.fresh {H5:Hp} {a lp:Addr} {N M:Nat} {u:HO} (hJ:c9 K H t a ns N) (hl:H lp=none) (J5:c9 K H5 t a ns M) (nt:t≠lp):c9 K (upd H5 lp u) t a ns M:=by
 obtain ⟨⟨p,q,h1,h2,e5⟩,q5⟩:=J5
 refine ⟨⟨p,q,h1,h2,(aF nt).trans e5⟩,?_⟩
 rcases hJ.2 with (h | ⟨o,h⟩) | h
 ·exact ba.jm ba.at (λz=>by rw [z,hl] at h; cases h) q5
 ·exact ba.jm ba.at (λz=>by rw [z,hl] at h; cases h) q5
 ·exact .inr h
theorem xO (ls:List Wd):eO (ub ls)=true:=by
 unfold ub eO
 induction ls with
 | nil=>unfold List.map jK; rfl
 | cons n r ih=>rw [Qz]; unfold jK; rw [ih]; unfold eO; rfl
theorem xP (ls:List Wd):SeqAt.shaped (ub ls)=true:=nU (by unfold ub PyData.canLay0; exact lX _ (λx=>by unfold PyData.canLay0; cases x <;> decide +kernel) ls) (Ja (by unfold ub PyData.depth; exact Zx (nS (k:=0) _ (λ_=>by unfold PyData.depth; exact Qh _) ls)) (by decide))
theorem SQ {a:Addr} {ls:List Wd} (h:H a=some (.lst (ls.map λwd=>.str wd.str))):Den K H (ub ls) (.ref a):=by
 refine kW.mpr ⟨a,_,rfl,au.of h,rQ (by rw [Qd,Qd]) λi d z h1 h2=>?_⟩
 rw [Qi] at h1 h2
 obtain ⟨x,hx,rfl⟩:=Qs.mp h1
 obtain ⟨y,hy,rfl⟩:=Qs.mp h2
 rw [hx] at hy
 cases hy
 exact sS.mpr rfl
theorem aHm (ls:List Wd):PyData.eqv (ub ls) (ub [])=ls.isEmpty:=by
 unfold ub
 cases ls with
 | nil=>rw [Xt,PyData.eqv,PyData.eqvAll]; rfl
 | cons x r=>rw [Qz,Xt,PyData.eqv,PyData.eqvAll]; rfl
theorem ft.keep {x a b:Addr} (h:ft K H C x D) (e:bT a b c H H') (ha:NT H a) (hb:NT H b) (hc:NT H c) (n:∀ q,q=x∨q=D.da∨q=D.dh->q≠a/\q≠b/\q≠c):ft K H' C x D:=by
 obtain ⟨x1,x2,x3⟩:=n x (.inl rfl)
 obtain ⟨y1,y2,y3⟩:=n D.da (.inr (.inl rfl))
 obtain ⟨z1,z2,z3⟩:=n D.dh (.inr (.inr rfl))
 exact ⟨e _ _ x1 x2 x3 h.ins,e _ _ y1 y2 y3 h.ai,e _ _ z1 z2 z3 h.hand,h.tl,h.wl,h.hl,λi t l q1 q2=>e.uc ha hb hc (h.tup i t l q1 q2),h.ne⟩
def zL (K:Rb) (C Pl:Addr):Sp:=λvs H Q _=>∃ (t a:Addr) (ns:List Int) (N:Nat) (x:Addr) (D:DD),vs = [.ref t,.ref x]/\c9 K H t a ns N/\N<=700000/\ft K H C x D/\km D/\H Pl=some (.tab qR) /\
 ∀ fp kvs H',ba t H H'->c9 K H' t a ns (N+5)->H fp=none->H' fp=some (.dK kvs)->(∀ wd:Wd,∃ v,bW kvs (.inr wd.str)=some v/\jN K D H H' wd v)->Q (.ref fp) H'
theorem tH:af ["jar", "dealing", "left", "found", "word"] ["jar", "dealing"] (aI uZ):=.of
set_option maxHeartbeats 1000000 in
theorem aEC (G:Fn K mg "_law_e_asked" uZ ["jar", "dealing"] f fd) (B:Bl mg) (j6:Fn K mg "_law_e_scoop" kQ ["jar", "many"] fS dS) (j5:ae P w K mg base ao 2 fS dS ["jar", "many"] (jM K)) (GAk:Fn K mg "_law_e_ask" GU ["dealing", "word"] fA dA) (OAk:ae P w K mg base ao 10 fA dA ["dealing", "word"] (Sf K C Pl)):ae P w K mg base ao 11 f fd ["jar", "dealing"] (zL K C Pl):=by
 refine G.fn.oK tH λbg A outer s H vs Q E hr h=>?_
 ·obtain ⟨t,a,ns,N,x,D,rfl,hJ,hN,hD,hM,hT,k⟩:=h
  have N_:aj 10 _:=hr
  have r2:aj 2 _:=hr.mono (by decide)
  have hu:=bU hr
  refine ⟨_,aE (aX (i:=2) tH.nd rfl (Or.inl rfl) (gT (aA aK (aA aK (aA aK (aA aK (aA aK aC)))))))
   (aE (aX (i:=3) tH.nd rfl (Or.inl rfl) jX)
   (aE (tN PassesOwn.never (aP (Lu hr.FD) (pv 2) (gT aC) (aU _))
    (aE (aX (i:=4) tH.nd rfl (Or.inl rfl) (kI Rh Mb Mc U6 (pv 2) (aA (aW j6 j5 r2 rfl (aA (pv 0) (aA (aL bB rfl B.len eP (aA (pv 2) aC)) aC))) aC)))
    (aJ (iY hu (pv 3) (pv 4) (aW GAk OAk N_ rfl (aA (pv 1) (aA (pv 4) aC))) rfl))))
   (aJ (aR (pv 3))))),?_⟩
  obtain ⟨Fw,e0⟩:=hJ.lst
  refine ⟨js 5 (by decide) |> Jh,λlp fv=>?_⟩
  dsimp only [bN]
  have s1:=aD.new (o:=.lst [.str "works",.str "deal",.str "loads",.str "levels",.str "moved"]) fv
  have l1:upd H lp (.lst [.str "works",.str "deal",.str "loads",.str "levels",.str "moved"]) lp=some (.lst (([.de,.i7,.f9,.levels,.moved]:List Wd).map λwd=>.str wd.str)):=aB
  generalize upd H lp (.lst [.str "works",.str "deal",.str "loads",.str "levels",.str "moved"])=H1 at s1 l1 ⊢
  intro fp ow
  dsimp only [bN]
  have jn:H fp=none:=s1.free ow
  have s2:=s1.trans (aD.new (o:=.dK []) ow)
  have l2:=(aD.new (o:=.dK []) ow) _ _ l1
  have f2:upd H1 fp (.dK []) fp=some (.dK []):=aB
  generalize upd H1 fp (.dK [])=H2 at s2 l2 f2 ⊢
  have Dh:lp≠fp:=λz=>by rw [z,f2] at l2; cases l2
  have De:t≠lp:=λz=>by rw [z,fv] at e0; cases e0
  have Og:t≠fp:=λz=>by rw [z,jn] at e0; cases e0
  have Gp:=hD.same s2
  have own:∀ q,q=x∨q=D.da∨q=D.dh->q≠t/\q≠lp/\q≠fp:=λq hq=>by
   have hs:∃ u,H q=some u/\∀ xs,u≠.lst xs:=by
    rcases hq with rfl | rfl | rfl
    ·exact ⟨_,hD.ins,λ_ z=>by cases z⟩
    ·exact ⟨_,hD.ai,λ_ z=>by cases z⟩
    ·exact ⟨_,hD.hand,λ_ z=>by cases z⟩
   obtain ⟨u,hu,nu⟩:=hs
   exact ⟨λz=>(by rw [z,e0] at hu; exact nu _ (Option.some.inj hu).symm),λz=>(by rw [z,fv] at hu; cases hu),λz=>(by rw [z,jn] at hu; cases hu)⟩
  have IJ:Pl≠t/\Pl≠lp/\Pl≠fp:=⟨λz=>(by rw [z,e0] at hT; cases hT),λz=>(by rw [z,fv] at hT; cases hT),λz=>(by rw [z,jn] at hT; cases hT)⟩
  have HW:∀ {H3:Hp} {xs ys:List V} {kvs:List (Key×V)},H3 t=some (.lst xs)->H3 lp=some (.lst ys)->H3 fp=some (.dK kvs)->NT H3 t/\NT H3 lp/\NT H3 fp:=λh1 h2 h3=>⟨NT.lst h1,NT.lst h2,NT.dK h3⟩
  have RN:H2 t≠none:=by rw [s2 _ _ e0]; exact λz=>by cases z
  have RO:H2 lp≠none:=by rw [l2]; exact λz=>by cases z
  have RP:H2 fp≠none:=by rw [f2]; exact λz=>by cases z
  refine ⟨λm σ H3=>∃ (v:Option V) (ls:List Wd) (kvs:List (Key×V)),σ = [some (.ref t),some (.ref x),some (.ref lp),some (.ref fp),v]/\m=ls.length/\H3 lp=some (.lst (ls.map λwd=>.str wd.str))/\H3 fp=some (.dK kvs)/\kvs.length+ls.length<=5/\c9 K H3 t a ns (N+(5 - ls.length))/\bT t lp fp H2 H3/\∀ wd:Wd,wd∈ls∨∃ v,bW kvs (.inr wd.str)=some v/\jN K D H2 H3 wd v,
   ⟨5,none,[.de,.i7,.f9,.levels,.moved],[],rfl,rfl,l2,f2,Qh _,(hJ.same s2).more (Xo ..),bT.refl _ _ _ _,λwd=>.inl (by cases wd <;> decide)⟩,?_⟩
  rintro m σ H3 ⟨v,ls,kvs,rfl,rfl,l3,f3,h5,J3,b3,si⟩
  refine ⟨_,rfl,Jt _,λpe JG=>?_⟩
  have s4:=aD.new (o:=.lst []) JG
  refine ⟨ub ls,ub [],SQ (s4 _ _ l3),SQ aB,xO _,xO _,xP _,xP _,_,rfl,?_⟩
  rw [aHm]
  generalize upd H3 pe (.lst [])=H4 at s4 ⊢
  have J4:=J3.same s4
  have l4:=s4 _ _ l3
  have f4:=s4 _ _ f3
  have b4:=b3.trans (bT.of (x:=t) (a:=lp) (b:=fp) s4)
  have y8:∀ wd:Wd,wd∈ls∨∃ v,bW kvs (.inr wd.str)=some v/\jN K D H2 H4 wd v:=λwd=>(si wd).imp id λ⟨v,h1,h2⟩=>⟨v,h1,h2.same s4⟩
  cases F_:ls with
  | nil =>
   subst F_
   refine oH ?_
   refine ⟨_,rfl,k fp kvs H4 (λc u hc hu=>?_) (J4.more (by simp)) jn f4 λwd=>?_⟩
   ·exact b4 c u hc (λz=>by rw [z,fv] at hu; cases hu) (λz=>by rw [z,jn] at hu; cases hu) (s2 _ _ hu)
   ·rcases y8 wd with z | ⟨v,h1,h2⟩
    ·cases z
    ·exact ⟨v,h1,h2.old λc hc=>s2.free hc⟩
  | cons w0 ls0 =>
   rw [<- F_]
   have pos:0 < ls.length:=by rw [F_]; exact Nat.succ_pos _
   rw [show (!ls.isEmpty)=true by rw [F_]; rfl]
   refine kN ⟨λak H'=>∃ m',m' < ls.length/\∃ (v:Option V) (ls:List Wd) (kvs:List (Key×V)),ak = [some (.ref t),some (.ref x),some (.ref lp),some (.ref fp),v]/\m'=ls.length/\H' lp=some (.lst (ls.map λwd=>.str wd.str))/\H' fp=some (.dK kvs)/\kvs.length+ls.length<=5/\c9 K H' t a ns (N+(5 - ls.length))/\bT t lp fp H2 H'/\∀ wd:Wd,wd∈ls∨∃ v,bW kvs (.inr wd.str)=some v/\jN K D H2 H' wd v,λak H' h=>h,?_⟩
   have h5l:ls.length<=5:=by omega
   refine ⟨_,rfl,.inl ⟨rfl,_,au.of l4⟩,_,rfl,_,rfl,lp,_,rfl,.inl (au.of l4),t,a,ns,N+(5 - ls.length),_,rfl,J4,by omega,by rw [Qd]; omega,?_,λr H5 r0 r1 b5 J5=>?_⟩
   ·rw [Qd]
    exact Xp (show ((ls.length:Int)).natAbs<=5 by omega) (by decide +kernel)
   rw [Qd] at r1
   obtain ⟨wd,zl⟩:∃ wd,ls[r.toNat]?=some wd:=⟨_,Qb (by omega)⟩
   have l5:=b5 _ _ De.symm l4
   have f5:=b5 _ _ Og.symm f4
   refine ⟨lp,_,r,r.toNat,.str wd.str,rfl,rfl,l5,by omega,by omega,(xW (SJ r0 (by rw [Qd]; omega))).1,by rw [Qi,zl]; rfl,?_⟩
   dsimp only [bN]
   have el:(ls.map λwd=>V.str wd.str).eraseIdx r.toNat=(ls.eraseIdx r.toNat).map λwd=>V.str wd.str:=xN _ _ _
   rw [el]
   have l6:upd H5 lp (.lst ((ls.eraseIdx r.toNat).map λwd=>V.str wd.str)) lp=some (.lst ((ls.eraseIdx r.toNat).map λwd=>V.str wd.str)):=aB
   have f6:upd H5 lp (.lst ((ls.eraseIdx r.toNat).map λwd=>V.str wd.str)) fp=some (.dK kvs):=(aF Dh.symm).trans f5
   obtain ⟨WR,e5⟩:=J5.lst
   have J6:c9 K (upd H5 lp (.lst ((ls.eraseIdx r.toNat).map λwd=>V.str wd.str))) t a ns (N+(5 - ls.length)+1):=hJ.fresh fv J5 De
   have KR:bT t lp fp H4 (upd H5 lp (.lst ((ls.eraseIdx r.toNat).map λwd=>V.str wd.str))):=λc u h1 h2 h3 hu=>by rw [aF h2]; exact b5 _ _ h1 hu
   have t6:upd H5 lp (.lst ((ls.eraseIdx r.toNat).map λwd=>V.str wd.str)) t=some (.lst WR):=(aF De).trans e5
   generalize upd H5 lp (.lst ((ls.eraseIdx r.toNat).map λwd=>V.str wd.str))=H6 at l6 f6 J6 KR t6 ⊢
   have KS:=b4.trans KR
   obtain ⟨YT,YU,YV⟩:=HW (s2 _ _ e0) l2 f2
   have Kp:ft K H6 C x D:=Gp.keep KS YT YU YV own
   have c!:=KS _ _ IJ.1 IJ.2.1 IJ.2.2 (s2 _ _ hT)
   refine ⟨_,rfl,_,rfl,x,D,wd,rfl,Kp,hM,c!,λv' H7 s7 A7=>?_⟩
   have f7:=s7 _ _ f6
   refine ⟨_,rfl,_,rfl,fp,_,rfl,qF.k (k:=.inr wd.str) f7 (js _ (by omega)),?_⟩
   have l7:=s7 _ _ l6
   have t7:=s7 _ _ t6
   have RK:bT t lp fp H7 (upd H7 fp (.dK (eQ kvs (.inr wd.str) v'))):=bT.b
   have RM:=(KR.trans (bT.of s7)).trans RK
   have hle:(ls.eraseIdx r.toNat).length=ls.length - 1:=by rw [Jf,if_pos (by omega)]
   refine ⟨(ls.eraseIdx r.toNat).length,by omega,_,ls.eraseIdx r.toNat,eQ kvs (.inr wd.str) v',rfl,rfl,(aF Dh).trans l7,aB,?_,?_,b4.trans RM,λFz=>?_⟩
   ·have:=gJ kvs (.inr wd.str) v'
    omega
   ·exact (hJ.fresh jn (J6.same s7) Og).more (by omega)
   ·rw [uC]
    by_cases c:Fz=wd
    ·subst c
     obtain ⟨YL,YM,YN⟩:=HW t7 l7 f7
     refine .inr ⟨v',if_pos rfl,?_⟩
     refine (A7.old λc hc=>?_).keep RK YL YM YN RN RO RP
     cases e:H2 c with
     | none=>rfl
     | some u =>
      by_cases c1:c=t
      ·rw [c1,t6] at hc; cases hc
      ·by_cases c2:c=lp
       ·rw [c2,l6] at hc; cases hc
       ·by_cases c3:c=fp
        ·rw [c3,f6] at hc; cases hc
        ·rw [KS _ _ c1 c2 c3 e] at hc; cases hc
    ·rcases y8 Fz with z | ⟨v0,h1,h2⟩
     ·left
      obtain ⟨j,hj⟩:=Qv.mp z
      have Z7:j≠r.toNat:=λz=>c (by rw [z,zl] at hj; exact (Option.some.inj hj).symm)
      exact Zw.mpr ⟨j,Z7,hj⟩
     ·right
      obtain ⟨xs4,e4⟩:=J4.lst
      obtain ⟨YQ,YR,YS⟩:=HW e4 l4 f4
      refine ⟨v0,?_,h2.keep RM YQ YR YS RN RO RP⟩
      rw [if_neg (λz=>c (aHl z))]
      exact h1
end Ab
namespace L2
open PySem
theorem sP (hK:X.K=K):eT X (.builtin "isinstance") (λxs H Q=>∃ x k,xs = [x,.ty "tuple"]/\Bw K H x k/\Q (.bl (decide (k=.tup))) H):=by subst hK; exact cW
end L2
namespace Ab
open PySem L2
theorem zM {ts:List Addr} {kv:Key×V} (h:(a_ nums ts)[i]?=some kv):∃ num t,nums[i]?=some num/\ts[i]?=some t/\kv=(.inl num,.ref t):=by
 unfold a_ at h
 rw [Qi] at h
 obtain ⟨p,hp,e⟩:=Qs.mp h
 rw [Je] at hp
 exact ⟨p.1,p.2,hp.1,hp.2,e.symm⟩
theorem TV {t1 t2:List Addr} (nd:nums.Nodup) (l1:t1.length=nums.length) (l2:t2.length=nums.length) (lw:ws.length=nums.length) (h1:∀ (i:Nat) t l,t1[i]?=some t->ws[i]?=some l->aq K H t (l.map V.int)) (h2:∀ (i:Nat) t l,t2[i]?=some t->ws[i]?=some l->aq K H t (l.map V.int)):qo K H (a_ nums t1) (a_ nums t2):=by
 refine ⟨by rw [gS l1,gS l2],λkv hk=>?_,λkv hk=>?_,λkv hk=>?_⟩
 ·obtain ⟨i,hi⟩:=Qv.mp hk
  obtain ⟨num,t,_,_,rfl⟩:=zM hi
  exact ⟨num,rfl⟩
 ·obtain ⟨i,hi⟩:=Qv.mp hk
  obtain ⟨num,t,_,_,rfl⟩:=zM hi
  exact ⟨num,rfl⟩
 ·obtain ⟨i,hi⟩:=Qv.mp hk
  obtain ⟨num,t,hn,ht,rfl⟩:=zM hi
  have bw:=(Qa.mp hn).1
  obtain ⟨u,hu⟩:∃ u,t2[i]?=some u:=⟨_,Qb (by omega)⟩
  obtain ⟨l,hl⟩:∃ l,ws[i]?=some l:=⟨_,Qb (by omega)⟩
  exact ⟨.ref u,.tuple (l.map .int),cJ nd hn hu,cU.mpr ⟨t,rfl,h1 i t l ht hl⟩,cU.mpr ⟨u,rfl,h2 i u l hu hl⟩,iH _,iG _⟩
theorem aF2 (nd:nums.Nodup) (l1:hs.length=nums.length):qo K H (cx nums hs) (cx nums hs):=by
 refine ⟨rfl,λkv hk=>?_,λkv hk=>?_,λkv hk=>?_⟩
 ·obtain ⟨i,hi⟩:=Qv.mp hk
  obtain ⟨num,t,_,_,rfl⟩:=rR hi
  exact ⟨num,rfl⟩
 ·obtain ⟨i,hi⟩:=Qv.mp hk
  obtain ⟨num,t,_,_,rfl⟩:=rR hi
  exact ⟨num,rfl⟩
 ·obtain ⟨i,hi⟩:=Qv.mp hk
  obtain ⟨num,g,hn,hg,rfl⟩:=rR hi
  exact ⟨.int g,.int g,cJ nd hn hg,cF.mpr rfl,cF.mpr rfl,by unfold eO; rfl,nU (pK g) (Ja (rN g) (by decide))⟩
def vR (K:Rb):Sp:=λvs H Q _=>∃ (fp sp:Addr) (kvs:List (Key×V)) (H0:Hp) (S:SD) (D:DD),vs = [.ref fp,.ref sp]/\H fp=some (.dK kvs)/\(∀ wd:Wd,∃ v,bW kvs (.inr wd.str)=some v/\jN K D H0 H wd v)/\su D S/\km D/\D.hs.length=D.nums.length/\gu K H sp S/\jb S/\H0 S.ap≠none/\∀ H',aD H H'->Q (.bl true) H'
theorem nH:af ["found", "state", "able", "where", "heaps", "many"] ["found", "state"] (aI lV):=.of
set_option maxHeartbeats 2000000 in
theorem aDc {dI:FuncData} (G:Fn K mg "_law_e_stands" lV ["found", "state"] f fd) (B:Bl mg) (Ap:Fn K mg "_law_e_whole_in" jD ["some"] fW dW) (Ak:ae P w K mg base ao 1 fW dW ["some"] (lK K)) (L_:Fn K mg "_law_e_heaps" qN ["state", "where"] fH dH) (LU:ae P w K mg base ao 1 fH dH ["state", "where"] (qX K)) (GId:Fn K mg "_law_e_is_deal" nE ["state", "where"] fI dI) (OId:ae P w K mg base ao 2 fI dI ["state", "where"] (xM K)) (GLv:Fn K mg "_law_e_are_levels" lU ["state", "where", "heights"] fL dL) (OLv:ae P w K mg base ao 2 fL dL ["state", "where", "heights"] (vP K)):ae P w K mg base ao 3 f fd ["found", "state"] (vR K):=by
 refine G.fn.oK nH λbg A outer s H vs Q E hr h=>?_
 ·obtain ⟨fp,sp,kvs,H0,S,D,rfl,hf,si,hL,P_,μ,hS,hM,n0,k⟩:=h
  have hu:=bU hr
  have r2:aj 2 _:=hr
  have r1:aj 1 _:=hr.mono (by decide)
  have vk:(A.deeper (PyProof.Rows.envOfC "_law_e_stands" (aI lV) s.heap.objs.size f bg)).units+100 < cLine:=by have:=r1.un; omega
  refine ⟨_,aE (aX (i:=2) nH.nd rfl (Or.inr rfl) (aQ hu (pv 0) aK (λ_ _=>rfl)))
   (aE (aX (i:=3) nH.nd rfl (Or.inl rfl) (aQ hu (pv 0) aK (λ_ _=>rfl)))
   (aE (aX (i:=4) nH.nd rfl (Or.inl rfl) (aQ hu (pv 0) aK (λ_ _=>rfl)))
   (aE (aX (i:=5) nH.nd rfl (Or.inl rfl) (aQ hu (pv 0) aK (λ_ _=>rfl)))
   (aE (bI (PW.pt (fZ (bV (bL (aL oR rfl B.isinstance iM (aA (pv 2) (aA (eI (v:=.ty "dict") rfl B.dict LF rfl) aC))))) (fZ (aP (aBr vk) (pv 2) (aQ hu (pv 1) aK (λ_ _=>rfl)) (aU _)) (eV (bV (bL (aW GId OId r2 rfl (aA (pv 1) (aA (pv 3) aC))))))))) (aJ (aR fY)) aS)
   (aE (bI (bV (bL (aW Ap Ak r1 rfl (aA (cR (jL rfl) rfl B.list pE (aA (pv 2) aC)) aC)))) (aJ (aR fY)) aS)
   (aE (bI (bV (bL (aL (kU rfl) rfl B.all xD (aA (mY (own:=["number"]) (fr:=[2]) (bo:=["able"]) (bK (aI lV) ["found", "state", "able", "where", "heaps", "many"] rfl rfl (by decide +kernel)) rfl (pv 2)
     (λ_ _ _ _=>(aV (i:=0) (show (["number", "able"]:List Str).Nodup by decide +kernel) rfl (Or.inl rfl))) (λ_ _ _ _=>eM)
     (λ_ _ _ _=>oV (aL (sP (K:=K) rfl) rfl B.isinstance iM (aA (aQ hu (pv 1) (pv 0) (λ_ _=>rfl)) (aA (eI (v:=.ty "tuple") rfl B.tuple gE rfl) aC))) (oU (aW Ap Ak r1 rfl (aA (aQ hu (pv 1) (pv 0) (λ_ _=>rfl)) aC))))) aC)))) (aJ (aR fY)) aS)
   (aE (bI (PW.pt (fZ (bV (bL (aL cW rfl B.isinstance iM (aA (pv 4) (aA (eI (v:=.ty "tuple") rfl B.tuple gE rfl) aC))))) (fZ (aP (Lu hr.FD) (cR pX rfl B.list pE (aA (pv 4) aC)) (aW L_ LU r1 rfl (aA (pv 1) (aA (pv 3) aC))) (aU _)) (eV (bV (bL (aW Ap Ak r1 rfl (aA (pv 4) aC)))))))) (aJ (aR fY)) aS)
   (aE (bI (PW.pt (fZ (bV (bL (aL cW rfl B.isinstance iM (aA (pv 5) (aA (eI (v:=.ty "tuple") rfl B.tuple gE rfl) aC))))) (fZ (aP oJ (aL bB rfl B.len eP (aA (pv 5) aC)) aH (aU _)) (eV (bV (bL (aW Ap Ak r1 rfl (aA (pv 5) aC)))))))) (aJ (aR fY)) aS)
   (aJ (aR (aW GLv OLv r2 rfl (aA (pv 1) (aA (pv 3) (aA (aQ hu (pv 0) aK (λ_ _=>rfl)) aC)))))))))))))),?_⟩
  obtain ⟨iu,gh,cz,fg⟩:=aZ hM.bk
  obtain ⟨jz,ox⟩:=eZ P_.dl
  have i9:S.nums.length<=12:=by rw [<- hS.wl]; exact cz
  have dk:S.nums.Nodup:=Jd.mpr (hM.up.imp λh=>Jz h)
  obtain ⟨_,aw,ap,ts,rfl,h0p,rn,uk,AX⟩:=si .de
  obtain ⟨_,ad,wp,rfl,Gu,Ds⟩:=si .i7
  obtain ⟨_,al,lp,rfl,fv⟩:=si .f9
  obtain ⟨_,av,vp,lv,rfl,JB,DR⟩:=si .levels
  obtain ⟨_,am,mp,rfl,zr⟩:=si .moved
  rw [hL.nums] at rn uk Ds
  rw [hL.ws] at AX
  rw [hL.n] at fv
  rw [hL.n,hL.ws] at DR
  have zp:∀ g∈D.hs,0<=g/\g < S.n:=λg hg=>by
   obtain ⟨i,hi⟩:=Qv.mp hg
   have hl:=Qb (show i < D.ws.length by rw [<- jz]; exact (Qa.mp hi).1)
   have:=(bA ((aZ P_.bk).2.2.2 _ (Qe hl))).2.1 g (ox i _ _ hi hl)
   rw [hL.n] at this; exact this
  have M7:D.hs.length=S.nums.length:=by rw [μ,hL.nums]
  have hW:Bp K H wp S D.hs:=⟨Ds,M7,zp⟩
  have zj:wp≠S.ap:=λz=>n0 (z ▸ Gu)
  have Na:∀ (i:Nat) g l,D.hs[i]?=some g->S.ws[i]?=some l->g∈l:=by rw [<- hL.ws]; exact ox
  have ll:(bS S.n D.hs).length=S.n.toNat:=wJ _ _
  refine ⟨_,rfl,fp,_,rfl,.inl ⟨kvs,.inr "works",.inl hf,rfl,aw.symm⟩,?_⟩
  dsimp only [bN]
  refine ⟨_,rfl,fp,_,rfl,.inl ⟨kvs,.inr "deal",.inl hf,rfl,ad.symm⟩,?_⟩
  dsimp only [bN]
  refine ⟨_,rfl,fp,_,rfl,.inl ⟨kvs,.inr "loads",.inl hf,rfl,al.symm⟩,?_⟩
  dsimp only [bN]
  refine ⟨_,rfl,fp,_,rfl,.inl ⟨kvs,.inr "moved",.inl hf,rfl,am.symm⟩,?_⟩
  dsimp only [bN]
  refine kM false (vN (b:=false) (c:=false) (λQ' q=>⟨_,rfl,ap,_,rfl,rn,true,rfl,q _ (aD.refl _)⟩) (λ_ H1 s1=>vN (b:=false) (c:=false) (λQ' q=>⟨_,rfl,_,rfl,sp,_,rfl,(hS.same s1).dr (k:=.inr "able") (cX S),ap,S.ap,_,_,rfl,rfl,.inl (s1 _ _ rn),.inl (hS.same s1).ai,TV dk uk hS.tl hS.wl (λi t l a b=>s1.ah (AX i t l a b)) (hS.same s1).tup,false,rfl,q _ (aD.refl _)⟩)
   (λ_ H2 s2=>sJ (b:=true) λQ' q=>⟨_,rfl,_,rfl,sp,wp,S,D.hs,rfl,(hS.same s1).same s2,hM,(hW.same s1).same s2,Na,zj,λH3 s3=>⟨true,rfl,q _ s3⟩⟩))) (λhb=>by cases hb) (λ_ H1 s1=>?_)
  dsimp only [jS]
  refine kM false (sJ (b:=true) λQ' q=>?_) (λhb=>by cases hb) (λ_ H2 s2=>?_)
  ·refine ⟨_,rfl,ap,_,rfl,.inl (s1 _ _ rn),λp hp=>?_⟩
   rw [jG uk]
   exact ⟨p,S.nums,rfl,.inl (au.of aB),by omega,λH3 s3=>⟨true,rfl,q _ ((aD.new hp).trans s3)⟩⟩
  dsimp only [jS]
  have Cp:=s1.trans s2
  have B1:=Cp _ _ rn
  have lh:(a_ S.nums ts).length=S.nums.length:=gS uk
  refine kM false (sJ (b:=true) λQ' q=>?_) (λhb=>by cases hb) (λ_ H3 s3=>?_)
  ·refine ⟨_,rfl,ap,_,rfl,B1,λo=>?_⟩
   have z3:upd H2 ap (.bq o (.dK (a_ S.nums ts))) ap=some (.bq o (.dK (a_ S.nums ts))):=aB
   have b3:ba ap H2 (upd H2 ap (.bq o (.dK (a_ S.nums ts)))):=ba.at
   have NL:∀ (i:Nat) t l,ts[i]?=some t->S.ws[i]?=some l->aq K (upd H2 ap (.bq o (.dK (a_ S.nums ts)))) t (l.map V.int):=λi t l a b=>b3.iw B1 (Cp.ah (AX i t l a b))
   generalize upd H2 ap (.bq o (.dK (a_ S.nums ts)))=Hf at z3 b3 NL ⊢
   refine nR (a:=ap) (o:=o) (kvs:=a_ S.nums ts) (λσ=>∃ u,σ = [u,some (.ref ap)]) (λi ys H4=>ys=(List.replicate i true).map V.bl/\aD Hf H4) (iI (by omega)) ⟨none,rfl⟩ ⟨rfl,aD.refl _⟩ (λi ys H4 h=>by rw [h.1,Qd,Jj]; exact Qh _) (λi ys H4 h=>h.2 _ _ z3) ?_ ?_
   ·rintro i ys σ kv H4 ie ⟨u,rfl⟩ ⟨rfl,s4⟩ hz
    obtain ⟨num,t',cm,qa,rfl⟩:=zM ie
    have hi:i < S.nums.length:=(Qa.mp cm).1
    obtain ⟨l,hl⟩:∃ l,S.ws[i]?=some l:=⟨_,Qb (by rw [hS.wl]; exact hi)⟩
    obtain ⟨w1,w2,w3⟩:=bA (fg l (Qe hl))
    have l6:=iR (by omega) w2 w3
    have j9:=s4.ah (NL i t' l qa hl)
    have dg:∀ {H5:Hp},aD H4 H5->kF H5 ap (kV (.inl num)) (some (.ref t')):=λs5=>.inl ⟨_,.inl num,.inr ⟨o,s5 _ _ (s4 _ _ z3)⟩,rfl,(cJ dk cm qa).symm⟩
    refine cQ ?_
    refine ⟨_,rfl,_,rfl,ap,_,rfl,dg (aD.refl _),_,.tup,rfl,.inr (.inl ⟨rfl,_,j9⟩),true,rfl,kN ?_⟩
    refine ⟨_,rfl,_,rfl,ap,_,rfl,dg (aD.refl _),t',l,rfl,.inr j9,by omega,λH5 s5=>⟨hz,⟨_,rfl⟩,?_,s4.trans s5⟩⟩
    rw [Ya,Qw]; rfl
   ·rintro ys H4 ⟨rfl,s4⟩ pc gj
    have pz:pc≠ap:=λz=>by rw [z,s4 _ _ z3] at gj; cases gj
    refine ⟨pc,List.replicate (a_ S.nums ts).length true,rfl,au.of (by rw [aF pz,aB]),true,by rw [tG],q _ λc u hc=>?_⟩
    by_cases d:c=ap
    ·rw [d] at hc ⊢
     rw [aB,<- B1]; exact hc
    ·have n2:c≠pc:=λz=>by rw [z] at hc; rw [s4 _ _ (b3 _ _ pz hc)] at gj; cases gj
     rw [aF d,aF n2]; exact s4 _ _ (b3 _ _ d hc)
  dsimp only [jS]
  have zh:=Cp.trans s3
  have BU:=zh.ah fv
  refine kM false (vN (b:=false) (c:=false) (λQ' q=>⟨_,rfl,_,.tup,rfl,.inr (.inl ⟨rfl,_,BU⟩),true,rfl,q _ (aD.refl _)⟩) (λ_ H4 s4=>vN (b:=false) (c:=false) (λQ' q=>?_) (λ_ H5 s5=>sJ (b:=true) λQ' q=>⟨_,rfl,lp,_,rfl,.inr (s5.ah (s4.ah BU)),by rw [ll]; omega,λH6 s6=>⟨true,rfl,q _ s6⟩⟩))) (λhb=>by cases hb) (λ_ H4 s4=>?_)
  ·refine ⟨_,rfl,lp,_,rfl,.inr (s4.ah BU),λp hp=>?_⟩
   have s5:=aD.new (o:=.lst ((bS S.n D.hs).map V.int)) hp
   have ep:upd H4 p (.lst ((bS S.n D.hs).map V.int)) p=some (.lst ((bS S.n D.hs).map V.int)):=aB
   generalize upd H4 p (.lst ((bS S.n D.hs).map V.int))=H5 at s5 ep ⊢
   have zg:=(zh.trans s4).trans s5
   refine ⟨_,rfl,_,rfl,sp,wp,S,D.hs,rfl,hS.same zg,hM,hW.same zg,λp2 H6 s6 _ e6=>?_⟩
   refine ⟨.list ((bS S.n D.hs).map .int),.list ((bS S.n D.hs).map .int),nM.mpr ⟨p,rfl,au.of (s6 _ _ ep)⟩,nM.mpr ⟨p2,rfl,au.of e6⟩,jE _,jE _,gZ _,gZ _,false,?_,q _ (s5.trans s6)⟩
   rw [Ug _ (SeqAt.canLay_of_shaped (gZ _))]; rfl
  dsimp only [jS]
  have N8:=zh.trans s4
  have BS:aq K H4 mp (([D.ml,D.ma]:List Int).map V.int):=N8.ah zr
  refine kM false (vN (b:=false) (c:=false) (λQ' q=>⟨_,rfl,_,.tup,rfl,.inr (.inl ⟨rfl,_,BS⟩),true,rfl,q _ (aD.refl _)⟩) (λ_ H5 s5=>vN (b:=false) (c:=false) (λQ' q=>⟨_,rfl,mp,_,rfl,.inr (s5.ah BS),rfl,false,rfl,q _ (aD.refl _)⟩) (λ_ H6 s6=>sJ (b:=true) λQ' q=>⟨_,rfl,mp,[D.ml,D.ma],rfl,.inr (s6.ah (s5.ah BS)),by simp,λH7 s7=>⟨true,rfl,q _ s7⟩⟩))) (λhb=>by cases hb) (λ_ H5 s5=>?_)
  dsimp only [jS]
  have zg:=N8.trans s5
  refine ⟨_,rfl,_,rfl,_,rfl,fp,_,rfl,.inl ⟨kvs,.inr "levels",.inl (zg _ _ hf),rfl,av.symm⟩,sp,wp,vp,S,D.hs,lv,rfl,hS.same zg,hM,hW.same zg,zj,zg.ah JB,DR,λH6 s6=>k _ (zg.trans s6)⟩
end Ab
namespace L2
open PySem PySem.Spec PyProof.Rows
section
variable {k:Nat} {NX:Sp}
end
end L2
namespace Ab
open PySem L2
def Oi:List Str:=["NoBook", "NoCosts", "NoDeal", "NoHand", "NoRooms", "NoRow", "NoText", "NoWay", "NoWeights", "NoWork", "TooMany"]
structure Cl (K:Rb) (mg:Str->Option Value) (cE:Addr) (c:Nat->Addr):Prop where
 mc:∀ (i:Nat) (n:Str),Oi[i]?=some n->mg n=some (.ref (c i))
 ec:∀ i,i < 11->∀ h:Heap,K.In h->jx h (c i) (.ref cE::i8)
 inj:∀ i j,i < 11->j < 11->c i=c j->i=j
 ne:∀ i,i < 11->c i≠cE
 mE:mg "DealError" = some (.ref cE)
 eE:∀ h:Heap,K.In h->jx h cE i8
section
variable {c:Nat->Addr}
theorem Cl.has (Z:Cl K mg cE c) (hi:i < 11) (hj:j < 11):(Value.ref (c j)::.ref cE::i8).contains (.ref (c i))=decide (j=i):=by
 by_cases e:j=i
 ·subst e; simp
 ·have h1:(Value.ref (c i)==Value.ref (c j))=false:=by
   rw [beq_eq_false_iff_ne]
   intro z
   injection z with z
   exact e (Z.inj j i hj hi z.symm)
  have h2:(Value.ref (c i)==Value.ref cE)=false:=by
   rw [beq_eq_false_iff_ne]
   intro z
   injection z with z
   exact Z.ne i hi z
  rw [Yh,Yh,h1,h2,decide_eq_false e]
  rfl
theorem Cl.up (Z:Cl K mg cE c):(Value.ref (c j)::.ref cE::i8).contains (.ref cE)=true:=by simp
def aIF (c:Nat->Addr) (i:Nat):TE:=λσ H Q=>∃ (a:Addr) (j:Nat),σ[0]?=some (some (.ref a))/\H a=some (Aq (c j) a)/\j < 11/\Q (.bl (decide (j=i))) H
theorem kB {n x:Str} {p:Pos} (Z:Cl K mg cE c) (B:Bl mg) (hK:X.K=K) (zt:X.mg=mg) (hN:Oi[i]?=some n) (hg:Gl X "isinstance") (JS:Gl X n) (h0:X.N[0]?=some x) (hx:X.env.scope.names.lookup x=some .local) (hd:(x==("__debug__" : Str))=false:=by decide) (ju:(x==("__classdict__" : Str))=false:=by decide) (ω:(n==("__debug__" : Str))=false:=by decide) (he:starEach [.Name x p1,.Name n p2] X.env=(false,eval (.Name x p1) X.env)::starEach [.Name n p2] X.env:=by rfl) (j_:(backTo pos (starEach [.Name n p2] X.env)).any (·.1)=false:=by rfl) :
  PE X (.Call (.Name "isinstance" p) [.Name x p1,.Name n p2] [] pos) (aIF c i):=by
 have hi:i < 11:=(Qa.mp hN).1
 have ux:∀ h:Heap,K.In h->∃ dd cd sl,h.get? (c i)=some { cls:=.type "type",dict:=dd,data:=.cls cd,slots:=sl }:=λh rh=>by
  obtain ⟨N,nm,q,bs,hdct,sn,sub,ab,col,dd,k0,k1,k2,k3,k5,mN,hC,_⟩:=Z.ec i hi h rh
  exact ⟨_,_,_,hC⟩
 have J:PE X (.Call (.Name "isinstance" p) [.Name x p1,.Name n p2] [] pos) _:=aL (yG (X:=X) (K:=K) (C':=c i) hK ux) hg (by rw [zt]; exact B.isinstance) iM (aA (pv 0 h0 (.inl hx) hd ju) (aA (lM (v:=.ref (c i)) JS (by rw [zt]; exact Z.mc i n hN) rfl ω) aC)) (by decide) (by decide) he j_
 intro aa s σ H Q I h
 obtain ⟨a,j,e0,hH,hj,q⟩:=h
 refine J aa s σ H Q I ⟨_,e0,a,c j,_,rfl,hH,Z.ec j hj,?_⟩
 rw [Z.has hi hj]
 exact q
def CW (j:Nat):List Bool:=[decide (j=0),decide (j=1),decide (j=2),decide (j=3),decide (j=4),decide (j=5),decide (j=6),decide (j=7),decide (j=8),decide (j=9),decide (j=10)]
theorem zd (x y z:V) : [x,y,z].length<=sizeLine:=by rw [Rf]; simp
theorem NP (x y z u:V) : [x,y,z,u].length<=sizeLine:=by rw [Rf]; simp
theorem aIG:bootBuiltins "ValueError" = some (.type "ValueError"):=by decide +kernel
def sK:List Str:=["book", "costs", "deal", "hand", "rooms", "row", "text", "way", "weights", "work", "many"]
theorem aED:∀ j,j < 11->(CW j).count true=1:=by decide +kernel
theorem aIc:∀ j,j < 11->(CW j)[j]?=some true:=by decide +kernel
theorem aId:∀ j,j < 11->∀ m,m < j->(CW j)[m]?≠some true:=by decide +kernel
def LC (c:Nat->Addr):Sp:=λvs H Q _=>∃ (a:Addr) (j:Nat) (t:Str),vs = [.ref a]/\H a=some (Aq (c j) a)/\j < 11/\sK[j]?=some t/\∀ H',aD H H'->Q (.str t) H'
theorem rS:af ["caught", "names", "kinds"] ["caught"] (aI G3):=.of
set_option maxHeartbeats 10000000 in
theorem aF3 (G:Fn K mg "_law_e_kind" G3 ["caught"] f fd) (B:Bl mg) (Z:Cl K mg cE c):ae P w K mg base ao 1 f fd ["caught"] (LC c):=by
 refine G.fn.oK rS λbg A outer s H vs Q E hr h=>?_
 ·obtain ⟨a,j,t,rfl,hH,hj,ht,k⟩:=h
  refine gp.ex (aM (cO (i:=1) rS.nd rfl (Or.inl rfl) (eJ (aG cG (aG cG (aG cG (aG cG (aG cG (aG cG (aG cG (aG cG (aG cG (aG cG (aG cG bD aO) aO) aO) aO) aO) aO) aO) aO) aO) aO) aO)))
   (aM ⟨aX (i:=2) rS.nd rfl (Or.inl rfl) (gT (aA (kB (i:=0) Z B rfl rfl rfl rfl rfl rfl rfl) (aA (kB (i:=1) Z B rfl rfl rfl rfl rfl rfl rfl) (aA (kB (i:=2) Z B rfl rfl rfl rfl rfl rfl rfl) aC))))⟩
   (aM ⟨aX (i:=2) rS.nd rfl (Or.inl rfl) (aY iB (pv 2) (gT (aA (kB (i:=3) Z B rfl rfl rfl rfl rfl rfl rfl) (aA (kB (i:=4) Z B rfl rfl rfl rfl rfl rfl rfl) (aA (kB (i:=5) Z B rfl rfl rfl rfl rfl rfl rfl) aC)))))⟩
   (aM ⟨aX (i:=2) rS.nd rfl (Or.inl rfl) (aY iB (pv 2) (gT (aA (kB (i:=6) Z B rfl rfl rfl rfl rfl rfl rfl) (aA (kB (i:=7) Z B rfl rfl rfl rfl rfl rfl rfl) (aA (kB (i:=8) Z B rfl rfl rfl rfl rfl rfl rfl) aC)))))⟩
   (aM ⟨aX (i:=2) rS.nd rfl (Or.inl rfl) (aY iB (pv 2) (gT (aA (kB (i:=9) Z B rfl rfl rfl rfl rfl rfl rfl) (aA (kB (i:=10) Z B rfl rfl rfl rfl rfl rfl rfl) aC))))⟩
   (aM ⟨bI (PW.pt (fZ (aP oJ (Lj (K:=K) rfl Rh Ip PySem.F.type_list_count (aBk (K:=K) rfl) (pv 2) (aA fY aC)) aH (aU _))
    (eV (bV (bL (aL (aAu (K:=K) rfl) rfl B.isinstance iM (aA (pv 0) (aA (eI (v:=.ty "ValueError") rfl B.ve aIG rfl) aC)))))))) (aJ (aR aK)) aS⟩
   (bE ⟨aR (bM cM (pv 1) (Lj (K:=K) rfl Rh Ub Iq (aBl (K:=K) rfl) (pv 2) (aA fY aC)) (λ_ _=>rfl))⟩))))))) ?_
  refine ⟨by rw [Rf]; decide,λp0 AZ=>?_⟩
  have s0:=aD.new (o:=.lst (sK.map V.str)) AZ
  have e0:upd H p0 (.lst (sK.map V.str)) p0=some (.lst (sK.map V.str)):=aB
  have h0:=s0 _ _ hH
  refine ⟨a,j,rfl,h0,hj,a,j,rfl,h0,hj,a,j,rfl,h0,hj,zd _ _ _,λp1 Cv=>?_⟩
  have h1:=λo=>(aD.new (o:=o) Cv) _ _ h0
  refine ⟨_,rfl,a,j,rfl,h1 _,hj,a,j,rfl,h1 _,hj,a,j,rfl,h1 _,hj,zd _ _ _,λp2 ot=>?_⟩
  refine ⟨_,_,_,_,rfl,rfl,(aD.new ot) _ _ aB,aB,by rw [Rf]; simp,λp3 zq=>?_⟩
  have s3:=λo=>(aD.new Cv).trans ((aD.new ot).trans (aD.new (o:=o) zq))
  have h3:=λo=>s3 o _ _ h0
  refine ⟨_,rfl,a,j,rfl,h3 _,hj,a,j,rfl,h3 _,hj,a,j,rfl,h3 _,hj,zd _ _ _,λp4 OY=>?_⟩
  refine ⟨_,_,_,_,rfl,rfl,(aD.new OY) _ _ aB,aB,by rw [Rf]; simp,λp5 F7=>?_⟩
  have s5:=λo=>(s3 _).trans ((aD.new OY).trans (aD.new (o:=o) F7))
  have h5:=λo=>s5 o _ _ h0
  refine ⟨_,rfl,a,j,rfl,h5 _,hj,a,j,rfl,h5 _,hj,i5 _ _,λp6 OX=>?_⟩
  refine ⟨_,_,_,_,rfl,rfl,(aD.new OX) _ _ aB,aB,by rw [Rf]; simp,λp7 ZQ=>?_⟩
  have s7:=λo=>(s5 _).trans ((aD.new OX).trans (aD.new (o:=o) ZQ))
  have h7:=λo=>s7 o _ _ h0
  have w7:=λo=>s7 o _ _ e0
  have ec:((CW j).count true:Int)=1:=by rw [aED j hj]; rfl
  refine ⟨_,rfl,.inl ⟨rfl,_,au.of aB⟩,p7,CW j,true,rfl,rfl,au.of aB,rfl,_,rfl,?_⟩
  rw [ec]
  refine oH ?_
  refine ⟨_,rfl,a,c j,_,rfl,h7 _,Z.ec j hj,_,rfl,?_⟩
  refine oH ?_
  refine ⟨_,rfl,_,rfl,.inl ⟨rfl,_,au.of aB⟩,p7,CW j,true,j,rfl,rfl,au.of aB,aIc j hj,aId j hj,p0,sK.map V.str,j,.str t,rfl,rfl,au.of (w7 _),gA ?_,?_⟩
  ·rw [Qi,ht]; rfl
  ·exact k _ (s0.trans (s7 _))
def TU (K:Rb) (c:Nat->Addr):Sp:=λvs H _ E=>∃ (x:Addr) (v:V) (d:PyData),vs = [.ref x,v]/\Den K H d v/\eK d=false/\∀ H',aD H H'->E (.ref (c 0)) none H'
theorem aEE (G:Mt K C "__init__" uT ["self", "hands"] f fd) (Z:Cl K mg cE c) (GH:Fn K mg "are_hands" pH ["thing"] fH dH) (OH:ae P w K mg base ao 2 fH dH ["thing"] (qP K)):ae P w K mg base (fi P w) 3 f fd ["self", "hands"] (TU K c):=by
 refine G.fn.zi SF λbg A outer s H vs Q E hr h=>?_
 ·obtain ⟨x,v,d,rfl,hd,hb,k⟩:=h
  have r2:aj 2 _:=hr
  refine ⟨_,aE (bI (bV (bL (aW GH OH r2 rfl (aA (pv 1) aC)))) (aJ (kY (Z.ec 0 (by decide)) rfl (Z.mc 0 _ rfl) rfl (λ_ _ _ _ _ _ _ I m q=>nO I m q))) aS) dY,?_⟩
  refine ⟨_,rfl,v,d,rfl,hd,_,rfl,eG (by rw [hb]; rfl) ?_⟩
  exact k H (aD.refl _)
def zN (C:Addr) (c:Nat->Addr):Sp:=λvs H _ E=>∃ (x:Addr) (D:DD),vs = [.ref x]/\H x=some (.ins C D.dx D.fj)/\D.n=6/\∀ H',aD H H'->E (.ref (c 10)) none H'
theorem aEF (G:Mt K C "come" uW ["self"] f fd) (T:Dc K C) (B:Bl mg) (Z:Cl K mg cE c):ae P w K mg base (fi P w) 2 f fd ["self"] (zN C c):=by
 obtain ⟨Hz,F'⟩:=B.f_
 refine G.fn.zi TX λbg A outer s H vs Q E hr h=>?_
 ·obtain ⟨x,D,rfl,hx,h6,k⟩:=h
  refine ⟨_,aE (bI (aP dX (cL (pv 0) rfl) (lM (v:=.int 6) rfl F' ⟨Hz,rfl⟩) (aU _)) (aJ (kY (Z.ec 10 (by decide)) rfl (Z.mc 10 _ rfl) rfl (λ_ _ _ _ _ _ _ I m q=>nO I m q))) aS) dY,?_⟩
  refine ⟨_,rfl,x,C,D.dx,_,_,rfl,hx,T.cl,T.n1,rfl,rfl,_,rfl,eG (decide_eq_true (by rw [h6])) ?_⟩
  exact k H (aD.refl _)
def SO (K:Rb) (C:Addr) (c:Nat->Addr):Sp:=λvs H _ E=>∃ (x:Addr) (D:DD) (v:V) (d:PyData) (j:Nat),vs = [.ref x,v]/\ft K H C x D/\Den K H d v/\(cA D.n d=false/\j=0∨cA D.n d=true/\D.nums.length=12/\j=10)/\∀ H',aD H H'->E (.ref (c j)) none H'
theorem aF4 {DY:Addr} {D7:FuncData} (G:Mt K C "put" Bn ["self", "able"] f fd) (T:Dc K C) (B:Bl mg) (Z:Cl K mg cE c) (L7:Fn K mg "is_work" pI ["hands", "thing"] DY D7) (LN:ae P w K mg base ao 2 DY D7 ["hands", "thing"] (qQ K)):ae P w K mg base (fi P w) 3 f fd ["self", "able"] (SO K C c):=by
 obtain ⟨Hy,JN⟩:=B.de
 refine G.fn.zi sI λbg A outer s H vs Q E hr h=>?_
 ·obtain ⟨x,D,v,d,j,rfl,hD,hd,hc,k⟩:=h
  have r2:aj 2 _:=hr
  refine ⟨_,aE (bI (bV (bL (aW L7 LN r2 rfl (aA (cL (pv 0) rfl) (aA (pv 1) aC))))) (aJ (kY (Z.ec 0 (by decide)) rfl (Z.mc 0 _ rfl) rfl (λ_ _ _ _ _ _ _ I m q=>nO I m q))) aS)
   (aE (bI (aP dX (aL lA rfl B.len eP (aA (cL (pv 0) rfl) aC)) (lM (v:=.int 12) rfl JN ⟨Hy,rfl⟩) (aU _)) (aJ (kY (Z.ec 10 (by decide)) rfl (Z.mc 10 _ rfl) rfl (λ_ _ _ _ _ _ _ I m q=>nO I m q))) aS) dY),?_⟩
  refine ⟨_,rfl,x,C,D.dx,_,_,rfl,hD.ins,T.cl,T.n1,rfl,_,rfl,D.n,v,d,rfl,hd,_,rfl,?_⟩
  rcases hc with ⟨hb,rfl⟩ | ⟨hb,lu,rfl⟩
  ·exact eG (by rw [hb]; rfl) (k H (aD.refl _))
  refine bJ (by rw [hb]; rfl) ?_
  exact ⟨_,rfl,x,C,D.dx,_,_,rfl,hD.ins,T.cl,T.n2,rfl,D.da,_,rfl,hD.ai,rfl,_,rfl,eG (decide_eq_true (by rw [gS hD.tl,lu]; rfl)) (k H (aD.refl _))⟩
def TR (K:Rb) (C:Addr) (c:Nat->Addr):Sp:=λvs H _ E=>∃ (x:Addr) (D:DD) (v:V) (d:PyData),vs = [.ref x,v]/\ft K H C x D/\Den K H d v/\(∀ num,d=.int num->num∉D.nums)/\∀ H',aD H H'->E (.ref (c 9)) none H'
theorem aEH {DZ:Addr} {D8:FuncData} (G:Mt K C "take" uV ["self", "number"] f fd) (T:Dc K C) (Z:Cl K mg cE c) (C0:Fn K mg "is_whole" lT ["thing"] DZ D8) (Er:ae P w K mg base ao 1 DZ D8 ["thing"] (lW K)):ae P w K mg base (fi P w) 3 f fd ["self", "number"] (TR K C c):=by
 refine G.fn.zi pN λbg A outer s H vs Q E hr h=>?_
 ·obtain ⟨x,D,v,d,rfl,hD,hd,gx,k⟩:=h
  have r1:aj 1 _:=hr.mono (by decide)
  refine ⟨_,aE (bI (PW.pt (fZ (bV (bL (aW C0 Er r1 rfl (aA (pv 1) aC)))) (eV (rA (nQ (bU hr) (pv 1) (cL (pv 0) rfl)) (by with_unfolding_all rfl))))) (aJ (kY (Z.ec 9 (by decide)) rfl (Z.mc 9 _ rfl) rfl (λ_ _ _ _ _ _ _ I m q=>nO I m q))) aS) dY,?_⟩
  refine ⟨_,rfl,v,d,rfl,hd,_,rfl,?_⟩
  cases hw:gX d with
  | false=>exact eG rfl (eG rfl (k H (aD.refl _)))
  | true =>
   obtain ⟨num,rfl⟩:∃ num,d=.int num:=by cases d <;> first | exact ⟨_,rfl⟩ | (simp [gX] at hw)
   obtain rfl:=cF.mp hd
   have va:bW (a_ D.nums D.ts) (.inl num)=none:=iT (f:=V.ref) (gx num rfl)
   exact bJ rfl ⟨_,rfl,_,rfl,x,C,D.dx,_,_,rfl,hD.ins,T.cl,T.n2,rfl,D.da,_,rfl,kF.k (k:=.inl num) hD.ai,_,rfl,eG (by rw [va]; rfl) (k H (aD.refl _))⟩
def K9 (K:Rb) (C:Addr) (c:Nat->Addr):Sp:=λvs H _ E=>∃ (x:Addr) (D:DD),vs = [.ref x]/\ft K H C x D/\(D.n=1∨∃ l∈D.ws,D.n - 1∈l)/\D.nums.length<=1000/\∀ H',aD H H'->E (.ref (c 3)) none H'
theorem aHn (G:Mt K C "go" p8 ["self"] f fd) (T:Dc K C) (B:Bl mg) (Z:Cl K mg cE c):ae P w K mg base (fi P w) 2 f fd ["self"] (K9 K C c):=by
 refine G.fn.zi G1 λbg A outer s H vs Q E hr h=>?_
 ·obtain ⟨x,D,rfl,hD,vc,hlen,k⟩:=h
  have r1:aj 1 _:=hr
  refine ⟨_,aE (aX (i:=1) G1.nd rfl (Or.inr rfl) (aY fP (cL (pv 0) rfl) aH))
   (aE (bI (PW.pt (fZ (aP dX (pv 1) aH (aU _)) (eV (bL (aL (kZ rfl) rfl B.any xH (aA (VL (own:=["able"]) (fr:=[1]) (bo:=["last"]) (bK (aI p8) ["self", "last"] rfl rfl (by decide +kernel)) rfl (tU Ti Th Tq lB (cL (pv 0) rfl))
    (λ_ _ _ _=>(aV (i:=0) (show (["able", "last"]:List Str).Nodup by decide +kernel) rfl (Or.inl rfl))) (λ_ _ _ _=>eM)
    (λ_ _ _ _=>(gN (gY (K:=K) rfl) (pv 1) (pv 0) (by with_unfolding_all rfl)))) aC)))))) (aJ (kY (Z.ec 3 (by decide)) rfl (Z.mc 3 _ rfl) rfl (λ_ _ _ _ _ _ _ I m q=>nO I m q))) aS)
   dY),?_⟩
  refine ⟨_,rfl,x,C,D.dx,_,_,rfl,hD.ins,T.cl,T.n1,rfl,_,_,rfl,rfl,?_⟩
  dsimp only [bN]
  refine ⟨_,rfl,rfl,_,rfl,?_⟩
  by_cases h1:D.n=1
  ·exact eG (decide_eq_true (by rw [h1]; rfl)) (eG rfl (k H (aD.refl _)))
  have vc:=vc.resolve_left h1
  refine bJ (decide_eq_false λz=>h1 (by injection z; omega)) ?_
  refine ⟨_,rfl,x,C,D.dx,_,_,rfl,hD.ins,T.cl,T.n2,rfl,.inr (.inr (.inl ⟨rfl,.inl ⟨_,hD.ai⟩⟩)),D.da,_,rfl,rfl,.inl hD.ai,λv hv=>?_⟩
  have s1:=aD.new (o:=jw v D.da) hv
  have ev:upd H v (jw v D.da) v=some (jw v D.da):=aB
  have oz:=hD.same s1
  generalize upd H v (jw v D.da)=H1 at s1 ev oz ⊢
  refine ⟨v,D.da,_,rfl,ev,oz.ai,λo=>?_⟩
  have z2:upd H1 D.da (.bq o (.dK (a_ D.nums D.ts))) D.da=some (.bq o (.dK (a_ D.nums D.ts))):=aB
  have b2:ba D.da H1 (upd H1 D.da (.bq o (.dK (a_ D.nums D.ts)))):=ba.at
  have lh:(a_ D.nums D.ts).length=D.nums.length:=by unfold a_; rw [Qd,Xr,hD.tl,Zu]
  refine xB (a:=D.da) (o:=o) (kvs:=a_ D.nums D.ts) (λσ=>∃ u,σ = [u,some (.int (D.n - 1))]) (λi zs H2=>zs=((D.ws.take i).map λl=>decide (D.n - 1∈l)).map V.bl/\H2=upd H1 D.da (.bq o (.dK (a_ D.nums D.ts)))) (iI (by omega)) ⟨none,rfl⟩ ⟨rfl,rfl⟩ (λi zs H2 h=>by rw [h.1,Qd,Qd,Ji]; exact Nat.min_le_left _ _) (λi zs H2 h=>by rw [h.2]; exact z2) ?_ ?_
  ·rintro i zs σ kv H2 ie ⟨u,rfl⟩ ⟨rfl,rfl⟩ hz
   obtain ⟨num,t,cm,ht,rfl⟩:∃ num t,D.nums[i]?=some num/\D.ts[i]?=some t/\kv=(.inl num,.ref t):=by
    unfold a_ at ie
    rw [Qi] at ie
    obtain ⟨p,hp,e⟩:=Qs.mp ie
    rw [Je] at hp
    exact ⟨p.1,p.2,hp.1,hp.2,e.symm⟩
   have hi:i < D.ts.length:=(Qa.mp ht).1
   have hl:=Qb (show i < D.ws.length by rw [hD.wl,<- hD.tl]; exact hi)
   generalize D.ws[i]'(by rw [hD.wl,<- hD.tl]; exact hi)=l at hl
   have j9:=oz.tup i t l ht hl
   have BN:aq K (upd H1 D.da (.bq o (.dK (a_ D.nums D.ts)))) t (l.map V.int):=b2.iw oz.ai j9
   refine cQ ?_
   refine ⟨_,rfl,_,rfl,t,_,rfl,.inr BN,rfl,jQ _,hz,⟨_,rfl⟩,?_,rfl⟩
   rw [Jw,hl,Qw,Qw]
   show _++[V.bl (uf (.int (D.n - 1)) (l.map V.int))]=_
   rw [qS]; rfl
  ·rintro zs H2 ⟨rfl,rfl⟩ pc gj
   have pz:pc≠D.da:=λz=>by rw [z,z2] at gj; cases gj
   refine ⟨pc,((D.ws.take (a_ D.nums D.ts).length).map λl=>decide (D.n - 1∈l)),rfl,au.of (by rw [aF pz,aB]),_,rfl,?_⟩
   have s3:aD H1 (upd (upd (upd H1 D.da (.bq o (.dK (a_ D.nums D.ts)))) pc (.lst (((D.ws.take (a_ D.nums D.ts).length).map λl=>decide (D.n - 1∈l)).map V.bl))) D.da (.dK (a_ D.nums D.ts))):=λb' u d9=>by
    by_cases c:b'=D.da
    ·rw [c] at d9 ⊢
     rw [aB,<- oz.ai]; exact d9
    ·have n2:b'≠pc:=λz=>by rw [aF pz] at gj; rw [z,gj] at d9; cases d9
     rw [aF c,aF n2,aF c]; exact d9
   generalize upd (upd (upd H1 D.da (.bq o (.dK (a_ D.nums D.ts)))) pc (.lst (((D.ws.take (a_ D.nums D.ts).length).map λl=>decide (D.n - 1∈l)).map V.bl))) D.da (.dK (a_ D.nums D.ts))=H4 at s3 ⊢
   refine eG ?_ (k _ (s1.trans s3))
   obtain ⟨l,hl,hm⟩:=vc
   rw [lh,<- hD.wl,Jr,Yi,Xg]
   exact ⟨l,hl,decide_eq_true hm⟩
def zO (K:Rb) (H:Hp) (dp:Addr) (D:DD) (j:Nat):Prop :=
 (∃ v d,aq K H dp [.str "put",v]/\Den K H d v/\(cA D.n d=false/\j=0∨cA D.n d=true/\D.nums.length=12/\j=10)) ∨
 (∃ v d,aq K H dp [.str "take",v]/\Den K H d v/\(∀ num,d=.int num->num∉D.nums)/\j=9) ∨
 (aq K H dp [.str "come"]/\D.n=6/\j=10)∨(aq K H dp [.str "go"]/\(D.n=1∨∃ l∈D.ws,D.n - 1∈l)/\j=3)
def Se (K:Rb) (C:Addr) (c:Nat->Addr):Sp:=λvs H _ E=>∃ (x dp:Addr) (D:DD) (j:Nat),vs = [.ref x,.ref dp]/\ft K H C x D/\D.nums.length<=12/\zO K H dp D j/\∀ H',aD H H'->E (.ref (c j)) none H'
theorem aHo {CN CM Bh Bg:Addr} {CU CT Bk Bj:FuncData} (G:Fn K mg "_law_e_do" ze ["dealing", "deed"] f fd) (T:Dc K C) (EB:Mt K C "put" Bn ["self", "able"] CN CU) (Et:ae P w K mg base (fi P w) 3 CN CU ["self", "able"] (SO K C c)) (EA:Mt K C "take" uV ["self", "number"] CM CT) (Es:ae P w K mg base (fi P w) 3 CM CT ["self", "number"] (TR K C c)) (EE:Mt K C "come" uW ["self"] Bh Bk) (Ex:ae P w K mg base (fi P w) 2 Bh Bk ["self"] (zN C c)) (EC:Mt K C "go" p8 ["self"] Bg Bj) (Ew:ae P w K mg base (fi P w) 2 Bg Bj ["self"] (K9 K C c)):ae P w K mg base (fi P w) 4 f fd ["dealing", "deed"] (Se K C c):=by
 refine G.fn.zi Sb λbg A outer s H vs Q E hr h=>?_
 ·obtain ⟨x,dp,D,j,rfl,hD,i9,hB,k⟩:=h
  have r3:aj 3 _:=hr
  have r2:aj 2 _:=hr.mono (by decide)
  refine ⟨_,aE (bI (aP dX (bM cC (pv 1) aH (λ_ _=>rfl)) aK (aU _)) (aJ (aR (kH (pv 0) T.cl EB.me Et r3 EB.bd .nil G9 (aA (bM cC (pv 1) aH (λ_ _=>rfl)) aC)))) aS)
   (aE (bI (aP dX (bM cC (pv 1) aH (λ_ _=>rfl)) aK (aU _)) (aJ (aR (kH (pv 0) T.cl EA.me Es r3 EA.bd .nil G9 (aA (bM cC (pv 1) aH (λ_ _=>rfl)) aC)))) aS)
   (aE (bI (aP dX (bM cC (pv 1) aH (λ_ _=>rfl)) aK (aU _)) (aJ (aR (cV (pv 0) T.cl EE.me Ex r2 EE.bd .nil G9))) aS)
   (aJ (aR (cV (pv 0) T.cl EC.me Ew r2 EC.bd .nil G9))))),?_⟩
  rcases hB with ⟨v,d,hE,hd,hc⟩ | ⟨v,d,hE,hd,gx,rfl⟩ | ⟨hE,h6,rfl⟩ | ⟨hE,hg,rfl⟩
  ·refine ⟨_,rfl,dp,_,0,_,rfl,rfl,hE,rfl,rfl,_,rfl,eG qV ?_⟩
   exact ⟨_,rfl,x,D.dx,_,rfl,hD.ins,rfl,_,rfl,dp,_,1,_,rfl,rfl,hE,rfl,x,D,v,d,j,rfl,hD,hd,hc,k⟩
  ·refine ⟨_,rfl,dp,_,0,_,rfl,rfl,hE,rfl,rfl,_,rfl,bJ (mB Hs) ?_⟩
   refine ⟨_,rfl,dp,_,0,_,rfl,rfl,hE,rfl,rfl,_,rfl,eG qV ?_⟩
   exact ⟨_,rfl,x,D.dx,_,rfl,hD.ins,rfl,_,rfl,dp,_,1,_,rfl,rfl,hE,rfl,x,D,v,d,rfl,hD,hd,gx,k⟩
  ·refine ⟨_,rfl,dp,_,0,_,rfl,rfl,hE,rfl,rfl,_,rfl,bJ (mB NJ) ?_⟩
   refine ⟨_,rfl,dp,_,0,_,rfl,rfl,hE,rfl,rfl,_,rfl,bJ (mB NI) ?_⟩
   refine ⟨_,rfl,dp,_,0,_,rfl,rfl,hE,rfl,rfl,_,rfl,eG qV ?_⟩
   exact ⟨_,rfl,x,D.dx,_,rfl,hD.ins,rfl,x,D,rfl,hD.ins,h6,k⟩
  ·refine ⟨_,rfl,dp,_,0,_,rfl,rfl,hE,rfl,rfl,_,rfl,bJ (mB Ht) ?_⟩
   refine ⟨_,rfl,dp,_,0,_,rfl,rfl,hE,rfl,rfl,_,rfl,bJ (mB NH) ?_⟩
   refine ⟨_,rfl,dp,_,0,_,rfl,rfl,hE,rfl,rfl,_,rfl,bJ (mB Hu) ?_⟩
   exact ⟨_,rfl,x,D.dx,_,rfl,hD.ins,rfl,x,D,rfl,hD,hg,by omega,k⟩
end
end Ab
namespace L2
open PySem PySem.Spec PyProof.Rows
section
variable {k:Nat} {ds:List Value} {x:Str} {p:Pos} {t:TA}
theorem aF5 {σ:St} {Q:VK} {EX:XK} (M:Mk X.K C f) (F:ae X.prog X.w X.K X.mg X.base (fi X.prog X.w) k f fd ps sp) (hr:aj (k+1) X.A) (hb:jT X.K fd ps ds) (hd:bH fk ds) (I:Inv X aa σ H s) (r:bH vs us) (h:∀ x dx,H x=none->H dx=none->dx≠x->sp (.ref x::(vs++fk)) (upd (upd H dx (.own x)) x (.ins C dx [])) (λv H2=>v=.br/\Q (.ref x) H2) EX) :
  wpAny (model X.prog X.w) X.A (call (.ref C) us) (EP X aa σ Q) (FX X aa σ EX) s:=by
 have hq:=h (s.heap.objs.size+1) s.heap.objs.size (I.ax.fresh (Yc _)) (I.ax.fresh (Qh _)) (Qy (Xn _))
 have I2:=Inv.made (C:=C) I
 have r2:bH (V.ref (s.heap.objs.size+1)::(vs++fk)) (Value.ref (s.heap.objs.size+1)::(us++ds)):=.cons rfl (r.append hd)
 have hl:(Value.ref (s.heap.objs.size+1)::us++ds).length=ps.length:=by
  have e:=r2.length
  rw [F.len _ _ _ _ hq] at e
  exact e.symm
 refine Vg (U8 (f:=f) I.i_ M.makes M.init (beq_iff_eq.mp M.fn) (Uv (F.run _ X.stack _ _ ⟨Value.ref (s.heap.objs.size+1)::us,[]⟩ (Value.ref (s.heap.objs.size+1)::(us++ds)) _ _ EX (hr.make C us [])
  (I2.y4.make C us []) (hb _ (Value.ref (s.heap.objs.size+1)::us) I2.i_ hl) r2 hq) λr s' q_=>?_))
 cases r with
 | error e=>exact ⟨_,_,I2,q_⟩
 | ok fl =>
  cases fl with
  | ret u =>
   obtain ⟨v,H',I3,rv,ev,q3⟩:=I2.after q_
   subst ev
   exact ⟨rv,⟨V.ref (s.heap.objs.size+1),H',I3,rfl,q3⟩⟩
  | next=>exact False.elim q_
  | brk=>exact False.elim q_
  | cont=>exact False.elim q_
def aHp (C:Addr) (sp:Sp) (fk:List V) (t:TA):TB:=λD EX σ H=>Sy C sp fk EX t σ H λ_ H2=>D.nx σ H2
theorem aF6 (M:Mk X.K C f) (F:ae X.prog X.w X.K X.mg X.base (fi X.prog X.w) k f fd ps sp) (hr:aj (k+1) X.A) (hg:Gl X x) (hm:X.mg x=some (.ref C)) (hb:jT X.K fd ps ds) (hd:bH fk ds) (ha:PA X.ud (e::es) t) (kj:(x==("__debug__" : Str))=false:=by decide) (he:starEach (e::es) X.env=(false,eval e X.env)::starEach es X.env:=by rfl) (j_:(backTo pos (starEach es X.env)).any (·.1)=false:=by rfl) (hs:swapsWith (.Call (.Name x p) (e::es) [] pos) none pos'.line X.env=pure false:=by rfl):PB X [.Expr (.Call (.Name x p) (e::es) [] pos) pos'] (aHp C sp fk t):=by
 intro aa s σ H D EX I h
 refine Up (Mf ?_ I.quiet hs)
 refine bh (Q:=EP X aa σ λ_ H2=>D.nx σ H2) (To (lL I hg hm ?_ kj)) λv s1 ay=>?_
 ·refine Tx (h₀:=X.base) I.ok.mod.xr M.kp (Rj (ha pos aa s σ H _ (I.ik _) h) (λus s1 ⟨vs,H1,Bx,r,q⟩=>⟨Bx.i_,?_⟩) λ_ _ z=>False.elim z) he j_
  exact aF5 M F hr hb hd Bx.df r q
 ·obtain ⟨x,H1,I1,r1,q1⟩:=ay
  exact Tr ⟨σ,H1,I1,q1⟩
end
end L2
namespace Ab
open PySem L2
section
variable {c:Nat->Addr}
def zP (K:Rb) (C:Addr):Sp:=λvs H Q _=>∃ (y v:V) (j:Nat) (t:Str),vs = [y,v]/\j < 11/\sK[j]?=some t /\
 ((y=.br/\j=0/\∃ d,Den K H d v/\eK d=false)∨∃ (x dp:Addr) (D:DD),y=.ref x/\v=.ref dp/\ft K H C x D/\D.nums.length<=12/\zO K H dp D j)/\∀ H',aD H H'->Q (.str t) H'
theorem zQ:af ["dealing", "deed", "caught", "e"] ["dealing", "deed"] (aI uR):=.of
theorem aEJ {dI dK:FuncData} (G:Fn K mg "_law_e_word" uR ["dealing", "deed"] f fd) (Z:Cl K mg cE c) (MK:Mk K C fI) (Cw:mg "Dealing" = some (.ref C)) (L9:Mt K C "__init__" uT ["self", "hands"] fI dI) (Eu:ae P w K mg base (fi P w) 3 fI dI ["self", "hands"] (TU K c)) (yn:Fn K mg "_law_e_do" ze ["dealing", "deed"] fO dO) (Bu:ae P w K mg base (fi P w) 4 fO dO ["dealing", "deed"] (Se K C c)) (GKi:Fn K mg "_law_e_kind" G3 ["caught"] fK dK) (OKi:ae P w K mg base ao 1 fK dK ["caught"] (LC c)):ae P w K mg base ao 5 f fd ["dealing", "deed"] (zP K C):=by
 refine G.fn.oK zQ λbg A outer s H vs Q E hr h=>?_
 ·obtain ⟨y,v,j,t,rfl,hj,ht,hc,k⟩:=h
  have r4:aj 4 _:=hr
  have r1:aj 1 _:=hr.mono (by decide)
  refine ⟨_,aE (aX (i:=2) zQ.nd rfl (Or.inl rfl) oS)
   (aE (aG4 (i:=2) (j:=3) (aHS (aP SV (pv 0) oS (aU _)) (aF6 MK Eu r4 rfl Cw L9.bd .nil (aA (pv 1) aC)) (aFn Bu r4 rfl yn.IK yn.kp yn.bd .nil (aA (pv 0) (aA (pv 1) aC)))) rfl rfl rfl rfl Z.mE Z.eE zQ.nd rfl rfl (by decide) rfl rfl)
   (aE (bI (aP SV (pv 2) oS (aU _)) (aJ (aR aK)) aS)
   (aJ (aR (aW GKi OKi r1 rfl (aA (pv 2) aC)))))),?_⟩
  rcases hc with ⟨rfl,rfl,d,hd,hb⟩ | ⟨x,dp,D,rfl,rfl,hD,i9,hB⟩
  ·refine ⟨_,rfl,rfl,_,rfl,eG (decide_eq_true rfl) ?_⟩
   refine ⟨_,rfl,λx dx hx DH ne=>?_⟩
   have s0:aD H (upd (upd H dx (.own x)) x (.ins C dx [])):=(aD.new DH).trans (aD.new (by rw [aF ne.symm]; exact hx))
   refine ⟨x,v,d,rfl,s0.den _ _ hd,hb,λH1 s1=>⟨c 0,_,rfl,Z.ec 0 hj,Z.up,λa ha=>?_⟩⟩
   refine ⟨_,rfl,rfl,_,rfl,bJ (decide_eq_false λz=>by cases z) ?_⟩
   exact ⟨_,rfl,a,0,t,rfl,aB,hj,ht,λH2 s2=>k H2 (s0.trans (s1.trans ((aD.new ha).trans s2)))⟩
  ·refine ⟨_,rfl,rfl,_,rfl,bJ (decide_eq_false λz=>by cases z) ?_⟩
   refine ⟨_,rfl,_,rfl,x,dp,D,j,rfl,hD,i9,hB,λH1 s1=>⟨c j,_,rfl,Z.ec j hj,Z.up,λa ha=>?_⟩⟩
   refine ⟨_,rfl,rfl,_,rfl,bJ (decide_eq_false λz=>by cases z) ?_⟩
   exact ⟨_,rfl,a,j,t,rfl,aB,hj,ht,λH2 s2=>k H2 (s1.trans ((aD.new ha).trans s2))⟩
end
structure Pair (K:Rb) (H:Hp) (C x sp:Addr) (D:DD) (S:SD):Prop where
 dh:ft K H C x D
 dm:km D
 sh:gu K H sp S
 sm:jb S
 lk:su D S
theorem Pair.but {x sp:Addr} (h:Pair K H C x sp D S) (e:H t=some (.lst xs)) (b:ba t H H'):Pair K H' C x sp D S:=⟨h.dh.but e b,h.dm,h.sh.but e b,h.sm,h.lk⟩
theorem GZ {L:List Addr} (nd:L.Nodup) {a b:Addr} (hi:L[i]?=some a) (hj:L[j]?=some b) (n:i≠j):a≠b:=λz=>by
 obtain ⟨h1,e1⟩:=Qa.mp hi
 obtain ⟨h2,e2⟩:=Qa.mp hj
 exact n ((Zh nd).mp (e1.trans (z.trans e2.symm)))
theorem gu.keep {sp a b:Addr} (h:gu K H sp S) (e:bT a b c H H') (ha:NT H a) (hb:NT H b) (hc:NT H c) (n1:sp≠a/\sp≠b/\sp≠c) (n2:S.ap≠a/\S.ap≠b/\S.ap≠c):gu K H' sp S :=
 ⟨e _ _ n1.1 n1.2.1 n1.2.2 h.st,e _ _ n2.1 n2.2.1 n2.2.2 h.ai,h.tl,h.wl,λi t l q1 q2=>e.uc ha hb hc (h.tup i t l q1 q2),h.ne⟩
theorem kS {a b d:Addr} {fs:List (Str×V)} {k:List (Key×V)} (h1:H a=some (.ins c d fs)) (h2:H b=some (.dK k)):a≠b:=λz=>by rw [z,h2] at h1; cases h1
theorem gL.keep {a b:Addr} (e3:bT a b c H H1) (ha:NT H a) (hb:NT H b) (hc:NT H c):∀ {e:cp},gL K H dp e->gL K H1 dp e
 | .c8,h=>e3.uc ha hb hc h
 | .go,h=>e3.uc ha hb hc h
 | .take _,h=>e3.uc ha hb hc h
 | .put _ _,h=>⟨e3.uc ha hb hc h.1,e3.uc ha hb hc h.2⟩
theorem aF7 (S:SD) (e:cp):K0 (S.told e) (S.told e)=true:=by cases e <;> rfl
def Md (H:Hp) (c:Addr):Prop:=(∃ C dx fs,H c=some (.ins C dx fs))∨∃ k,H c=some (.dK k)
theorem bT.se {x a b:Addr} {u:HO} (e:bT x a b H H') (hx:Md H x) (ha:Md H a) (hb:Md H b) (hc:H c=some u) (n1:∀ C dx fs,u≠.ins C dx fs) (n2:∀ k,u≠.dK k):H' c=some u:=by
 have f:∀ y,Md H y->c≠y:=λy hy z=>by
  rcases hy with ⟨_,_,_,h⟩ | ⟨_,h⟩
  ·rw [z,h] at hc; exact n1 _ _ _ (Option.some.inj hc).symm
  ·rw [z,h] at hc; exact n2 _ (Option.some.inj hc).symm
 exact e c u (f x hx) (f a ha) (f b hb) hc
theorem bT.lst {x a b:Addr} (e:bT x a b H H') (hx:Md H x) (ha:Md H a) (hb:Md H b) (hc:H c=some (.lst xs)):H' c=some (.lst xs):=e.se hx ha hb hc (λ_ _ _ z=>by cases z) (λ_ z=>by cases z)
theorem bT.tab {x a b:Addr} (e:bT x a b H H') (hx:Md H x) (ha:Md H a) (hb:Md H b) (hc:H c=some (.tab q)):H' c=some (.tab q):=e.se hx ha hb hc (λ_ _ _ z=>by cases z) (λ_ z=>by cases z)
theorem bT.c7 {x a b sa:Addr} {N:Nat} (e:bT x a b H H') (hx:Md H x) (ha:Md H a) (hb:Md H b) (J:c9 K H t sa ns N):c9 K H' t sa ns N:=by
 obtain ⟨⟨p,q,h1,h2,h3⟩,h4⟩:=J
 refine ⟨⟨p,q,h1,h2,e.lst hx ha hb h3⟩,?_⟩
 rcases h4 with (h | ⟨o,h⟩) | h
 ·exact .inl (.inl (e.lst hx ha hb h))
 ·exact .inl (.inr ⟨o,e.se hx ha hb h (λ_ _ _ z=>by cases z) (λ_ z=>by cases z)⟩)
 ·exact .inr h
theorem Md.nt (h:Md H c):NT H c:=by
 rcases h with ⟨_,_,_,h⟩ | ⟨_,h⟩
 ·exact NT.ins h
 ·exact NT.dK h
structure Wn (K:Rb) (H:Hp) (C t a:Addr) (ns:List Int) (N:Nat) (Pt Pl x sp:Addr) (D:DD) (S:SD):Prop where
 c7:c9 K H t a ns N
 pt:H Pt=some (.tab rP)
 pl:H Pl=some (.tab qR)
 p:Pair K H C x sp D S
 nd : [D.da,D.dh,sp,S.ap].Nodup
section
variable {a x sp:Addr} {N M:Nat} {Dn:DD} {e:cp}
theorem Wn.more (h:Wn K H C t a ns N Pt Pl x sp D S) (le:N<=M):Wn K H C t a ns M Pt Pl x sp D S:=⟨h.c7.more le,h.pt,h.pl,h.p,h.nd⟩
theorem Wn.same (h:Wn K H C t a ns N Pt Pl x sp D S) (q:aD H H1):Wn K H1 C t a ns N Pt Pl x sp D S:=⟨h.c7.same q,q _ _ h.pt,q _ _ h.pl,⟨h.p.dh.same q,h.p.dm,h.p.sh.same q,h.p.sm,h.p.lk⟩,h.nd⟩
theorem Wn.but (h:Wn K H C t a ns N Pt Pl x sp D S) (b:ba t H H1) (J:c9 K H1 t a ns M):Wn K H1 C t a ns M Pt Pl x sp D S:=by
 obtain ⟨xs,et⟩:=h.c7.lst
 have n:∀ {c:Addr} {u:HO},H c=some u->(∀ xs,u≠.lst xs)->H1 c=some u:=λhc hu=>b _ _ (λz=>by rw [z,et] at hc; exact hu _ (Option.some.inj hc).symm) hc
 exact ⟨J,n h.pt (λ_ z=>by cases z),n h.pl (λ_ z=>by cases z),h.p.but et b,h.nd⟩
theorem Wn.mid (h:Wn K H C t a ns N Pt Pl x sp D S) (b:bT x D.da D.dh H H1):gu K H1 sp S/\Md H x/\Md H D.da/\Md H D.dh:=by
 have n1:=NT.ins h.p.dh.ins
 have n2:=NT.dK h.p.dh.ai
 have n3:=NT.dK h.p.dh.hand
 have N:∀ {i j:Nat} {a b:Addr},[D.da,D.dh,sp,S.ap][i]?=some a->[D.da,D.dh,sp,S.ap][j]?=some b->i≠j->a≠b:=λa b c=>GZ h.nd a b c
 exact ⟨h.p.sh.keep b n1 n2 n3 ⟨(kS h.p.dh.ins h.p.sh.st).symm,N (i:=2) (j:=0) rfl rfl (by decide),N (i:=2) (j:=1) rfl rfl (by decide)⟩ ⟨(kS h.p.dh.ins h.p.sh.ai).symm,N (i:=3) (j:=0) rfl rfl (by decide),N (i:=3) (j:=1) rfl rfl (by decide)⟩,
  .inl ⟨_,_,_,h.p.dh.ins⟩,.inr ⟨_,h.p.dh.ai⟩,.inr ⟨_,h.p.dh.hand⟩⟩
theorem Wn.done (h:Wn K H C t a ns N Pt Pl x sp D S) (b:bT x D.da D.dh H H1) (da:Dn.da=D.da) (dh:Dn.dh=D.dh) (hD:ft K H1 C x Dn) (hM:km Dn) (lk:su Dn (S.step e)) (b2:bT sp S.ap S.ap H1 H2) (hS:gu K H2 sp (S.step e)) (m:jJ S e):Wn K H2 C t a ns N Pt Pl x sp Dn (S.step e):=by
 obtain ⟨h1,mx,ma,mh⟩:=h.mid b
 have n1:=NT.dK h1.st
 have n2:=NT.dK h1.ai
 have ms:Md H1 sp:=.inr ⟨_,h1.st⟩
 have mp:Md H1 S.ap:=.inr ⟨_,h1.ai⟩
 have N:∀ {i j:Nat} {a b:Addr},[D.da,D.dh,sp,S.ap][i]?=some a->[D.da,D.dh,sp,S.ap][j]?=some b->i≠j->a≠b:=λa b c=>GZ h.nd a b c
 have ea:(S.step e).ap=S.ap:=by cases e <;> rfl
 refine ⟨b2.c7 ms mp mp (b.c7 mx ma mh h.c7),b2.tab ms mp mp (b.tab mx ma mh h.pt),b2.tab ms mp mp (b.tab mx ma mh h.pl),⟨hD.keep b2 n1 n2 n2 λq hq=>?_,hM,hS,pO h.p.sm m,lk⟩,?_⟩
 ·rcases hq with rfl | rfl | rfl
  ·exact ⟨kS hD.ins h1.st,kS hD.ins h1.ai,kS hD.ins h1.ai⟩
  ·rw [da]; exact ⟨N (i:=0) (j:=2) rfl rfl (by decide),N (i:=0) (j:=3) rfl rfl (by decide),N (i:=0) (j:=3) rfl rfl (by decide)⟩
  ·rw [dh]; exact ⟨N (i:=1) (j:=2) rfl rfl (by decide),N (i:=1) (j:=3) rfl rfl (by decide),N (i:=1) (j:=3) rfl rfl (by decide)⟩
 ·rw [da,dh,ea]; exact h.nd
def iJ:SD->List cp->Prop
 | _,[]=>True
 | S,e::es=>jJ S e/\iJ (S.step e) es
theorem gL.but (et:H t=some (.lst xs)) (b:ba t H H1):∀ {e:cp},gL K H dp e->gL K H1 dp e
 | .c8,h=>b.ah et h
 | .go,h=>b.ah et h
 | .take _,h=>b.ah et h
 | .put _ _,h=>⟨b.ah et h.1,b.ah et h.2⟩
theorem gL.same (q:aD H H1):∀ {e:cp},gL K H dp e->gL K H1 dp e
 | .c8,h=>q.ah h
 | .go,h=>q.ah h
 | .take _,h=>q.ah h
 | .put _ _,h=>⟨q.ah h.1,q.ah h.2⟩
theorem iJ.at:∀ {es:List cp} {S:SD} {i:Nat} {e:cp},iJ S es->es[i]?=some e->jJ ((es.take i).foldl SD.step S) e
 | e0::es,S,0,e,h,q=>by cases (show e0=e by simpa using q); exact h.1
 | e0::es,S,i+1,e,h,q=>by
  have:=iJ.at (es:=es) (S:=S.step e0) (i:=i) h.2 (by simpa using q)
  simpa using this
structure ky (K:Rb) (H:Hp) (l:Addr) (b_:List Addr) (es:List cp):Prop where
 l:H l=some (.lst (b_.map V.ref))
 len:b_.length=es.length
 all:∀ (i:Nat) dp e,b_[i]?=some dp->es[i]?=some e->gL K H dp e
def rT (K:Rb) (C Pt Pl:Addr):Sp:=λvs H Q _=>∃ (t a:Addr) (ns:List Int) (N:Nat) (x sp l:Addr) (D:DD) (S:SD) (b_:List Addr) (es:List cp),vs = [.ref t,.ref x,.ref sp,.ref l]/\Wn K H C t a ns N Pt Pl x sp D S/\N+5*es.length<=600000/\t≠l/\ky K H l b_ es/\iJ S es /\
 ∀ D' H',Wn K H' C t a ns (N+5*es.length) Pt Pl x sp D' (es.foldl SD.step S)->Q (.bl true) H'
theorem rV:af ["jar", "dealing", "state", "deeds", "deed", "told"] ["jar", "dealing", "state", "deeds"] (aI nB):=.of
set_option maxHeartbeats 1000000 in
theorem aBH {fN:Addr} {dN:FuncData} (G:Fn K mg "_law_e_all_done" nB ["jar", "dealing", "state", "deeds"] f fd) (yn:Fn K mg "_law_e_do" ze ["dealing", "deed"] fO dO) (Bu:ae P w K mg base ao 4 fO dO ["dealing", "deed"] (GV K C Pt)) (Bz:Fn K mg "_law_e_step" rK ["state", "deed"] fT dT) (Bs:ae P w K mg base ao 1 fT dT ["state", "deed"] (vM K)) (Hm:Fn K mg "_law_e_asked" uZ ["jar", "dealing"] fA dA) (Hi:ae P w K mg base ao 11 fA dA ["jar", "dealing"] (zL K C Pl)) (L8:Fn K mg "_law_e_stands" lV ["found", "state"] fN dN) (LQ:ae P w K mg base ao 3 fN dN ["found", "state"] (vR K)):ae P w K mg base ao 12 f fd ["jar", "dealing", "state", "deeds"] (rT K C Pt Pl):=by
 refine G.fn.oK rV λbg A outer s H vs Q E hr h=>?_
 ·obtain ⟨t,a,ns,N,x,sp,l,D,S,b_,es,rfl,W,hN,De,hE,hM,k⟩:=h
  have FK:aj 11 _:=hr
  have r4:aj 4 _:=hr.mono (by decide)
  have r3:aj 3 _:=hr.mono (by decide)
  have r1:aj 1 _:=hr.mono (by decide)
  refine ⟨_,aE (hV PassesOwn.never rfl (hU (pv 3)) (aV (i:=4) rV.nd rfl (Or.inl rfl))
    (aE (aX (i:=5) rV.nd rfl (Or.inl rfl) (aW yn Bu r4 rfl (aA (pv 1) (aA (pv 4) aC))))
    (aJ (bI (PW.pt (fZ (aP oJ (pv 5) (aW Bz Bs r1 rfl (aA (pv 2) (aA (pv 4) aC))) (aU _)) (eV (bV (bL (aW L8 LQ r3 rfl (aA (aW Hm Hi FK rfl (aA (pv 0) (aA (pv 1) aC))) (aA (pv 2) aC)))))))) (aJ (aR fY)) aS))))
   (aJ (aR fY)),?_⟩
  refine ⟨_,rfl,l,rfl,⟨_,au.of hE.l⟩,jB (K:=K) (a:=l) (xs:=b_.map V.ref) (λi σ H1=>∃ (v4 v5:Option V) (D1:DD),σ = [some (.ref t),some (.ref x),some (.ref sp),some (.ref l),v4,v5]/\Wn K H1 C t a ns (N+5*i) Pt Pl x sp D1 ((es.take i).foldl SD.step S)/\ky K H1 l b_ es) ⟨none,none,D,rfl,W,hE⟩ (λi σ H1 _ ⟨_,_,_,_,_,h⟩=>au.of h.l) ?_ ?_⟩
  ·rintro i xv σ H1 hx ⟨v4,v5,D1,rfl,W1,E1⟩
   rw [Qi] at hx
   obtain ⟨dp,fe,rfl⟩:=Qs.mp hx
   obtain ⟨e,he⟩:∃ e,es[i]?=some e:=⟨_,Qb (by rw [<- E1.len]; exact (Qa.mp fe).1)⟩
   have hi:i < es.length:=(Qa.mp he).1
   have P4:=E1.all i dp e fe he
   have Gk:=hM.at he
   have et:(es.take (i+1)).foldl SD.step S=((es.take i).foldl SD.step S).step e:=by rw [Jw,he,Yv]; rfl
   rw [et]
   generalize (es.take i).foldl SD.step S=Si at W1 Gk ⊢
   dsimp only [bN]
   refine ⟨_,rfl,_,rfl,x,dp,D1,Si,e,rfl,W1.p.dh,W1.p.dm,W1.p.lk,P4,Gk,W1.pt,λDn H2 b2 da dh zy DQ Dm Q5=>?_⟩
   dsimp only [bN]
   obtain ⟨gv,mx,ma,mh⟩:=W1.mid b2
   have DU:=P4.keep b2 mx.nt ma.nt mh.nt
   refine ⟨_,rfl,_,rfl,_,rfl,sp,dp,Si,e,rfl,gv,W1.p.sm,DU,Gk,λH3 b3 oy=>⟨aF7 Si e,_,rfl,bJ (by simp) ?_⟩⟩
   have n1:=NT.dK gv.st
   have n2:=NT.dK gv.ai
   have W3:=W1.done b2 da dh zy DQ Dm b3 oy Gk
   have E3:ky K H3 l b_ es:=⟨b3.lst (.inr ⟨_,gv.st⟩) (.inr ⟨_,gv.ai⟩) (.inr ⟨_,gv.ai⟩) (b2.lst mx ma mh E1.l),E1.len,λj dq e' q1 q2=>((E1.all j dq e' q1 q2).keep b2 mx.nt ma.nt mh.nt).keep b3 n1 n2 n2⟩
   refine ⟨_,rfl,_,rfl,t,a,ns,N+5*i,x,Dn,rfl,W3.c7,by omega,W3.p.dh,W3.p.dm,W3.pl,λfp kf H4 b4 J4 nf hf si=>?_⟩
   have W4:=W3.but b4 J4
   obtain ⟨ts,CP⟩:=W3.c7.lst
   have E4:ky K H4 l b_ es:=⟨b4 _ _ De.symm E3.l,E3.len,λj dq e' q1 q2=>(E3.all j dq e' q1 q2).but CP b4⟩
   refine ⟨_,rfl,fp,sp,kf,H3,Si.step e,Dn,rfl,hf,si,W4.p.lk,W4.p.dm,W4.p.dh.hl,W4.p.sh,W4.p.sm,by rw [W3.p.sh.ai]; exact λz=>(by cases z),λH5 s5=>⟨true,rfl,bJ rfl ?_⟩⟩
   exact ⟨_,_,Dn,rfl,(W4.same s5).more (by omega),s5 _ _ E4.l,E4.len,λj dq e' q1 q2=>(E4.all j dq e' q1 q2).same s5⟩
  ·rintro σ H1 ⟨v4,v5,D1,rfl,W1,E1⟩
   rw [Qd,E1.len,Jr] at W1
   exact k D1 H1 W1
theorem Wn.kz (h:Wn K H C t a ns N Pt Pl x sp D S) (b:bT sp S.ap S.ap H H1):ft K H1 C x D/\Md H sp/\Md H S.ap:=by
 have N:∀ {i j:Nat} {a b:Addr},[D.da,D.dh,sp,S.ap][i]?=some a->[D.da,D.dh,sp,S.ap][j]?=some b->i≠j->a≠b:=λa b c=>GZ h.nd a b c
 refine ⟨h.p.dh.keep b (NT.dK h.p.sh.st) (NT.dK h.p.sh.ai) (NT.dK h.p.sh.ai) λq hq=>?_,.inr ⟨_,h.p.sh.st⟩,.inr ⟨_,h.p.sh.ai⟩⟩
 rcases hq with rfl | rfl | rfl
 ·exact ⟨kS h.p.dh.ins h.p.sh.st,kS h.p.dh.ins h.p.sh.ai,kS h.p.dh.ins h.p.sh.ai⟩
 ·exact ⟨N (i:=0) (j:=2) rfl rfl (by decide),N (i:=0) (j:=3) rfl rfl (by decide),N (i:=0) (j:=3) rfl rfl (by decide)⟩
 ·exact ⟨N (i:=1) (j:=2) rfl rfl (by decide),N (i:=1) (j:=3) rfl rfl (by decide),N (i:=1) (j:=3) rfl rfl (by decide)⟩
theorem Wn.AE (h:Wn K H C t a ns N Pt Pl x sp D S) (b2:bT sp S.ap S.ap H H1) (hS:gu K H1 sp (S.step e)) (b:bT x D.da D.dh H1 H2) (da:Dn.da=D.da) (dh:Dn.dh=D.dh) (hD:ft K H2 C x Dn) (hM:km Dn) (lk:su Dn (S.step e)) (m:jJ S e):Wn K H2 C t a ns N Pt Pl x sp Dn (S.step e):=by
 obtain ⟨h1,ms,mp⟩:=h.kz b2
 have N:∀ {i j:Nat} {a b:Addr},[D.da,D.dh,sp,S.ap][i]?=some a->[D.da,D.dh,sp,S.ap][j]?=some b->i≠j->a≠b:=λa b c=>GZ h.nd a b c
 have ea:(S.step e).ap=S.ap:=by cases e <;> rfl
 have mx:Md H1 x:=.inl ⟨_,_,_,h1.ins⟩
 have ma:Md H1 D.da:=.inr ⟨_,h1.ai⟩
 have mh:Md H1 D.dh:=.inr ⟨_,h1.hand⟩
 refine ⟨b.c7 mx ma mh (b2.c7 ms mp mp h.c7),b.tab mx ma mh (b2.tab ms mp mp h.pt),b.tab mx ma mh (b2.tab ms mp mp h.pl),⟨hD,hM,hS.keep b mx.nt ma.nt mh.nt ⟨(kS h.p.dh.ins h.p.sh.st).symm,N (i:=2) (j:=0) rfl rfl (by decide),N (i:=2) (j:=1) rfl rfl (by decide)⟩ ?_,pO h.p.sm m,lk⟩,by rw [da,dh,ea]; exact h.nd⟩
 rw [ea]
 exact ⟨(kS h.p.dh.ins h.p.sh.ai).symm,N (i:=3) (j:=0) rfl rfl (by decide),N (i:=3) (j:=1) rfl rfl (by decide)⟩
end
def LB (K:Rb) (C Pt Pl:Addr):Sp:=λvs H Q _=>∃ (t a:Addr) (ns:List Int) (N:Nat) (x sp:Addr) (D:DD) (S:SD),vs = [.ref t,.ref sp,.ref x]/\Wn K H C t a ns N Pt Pl x sp D S/\N<=500000/\S.nums = []/\∀ D' S' H',S'.nums.length=12->S'.n=S.n->S'.bc=S.bc+12->Wn K H' C t a ns (N+96) Pt Pl x sp D' S'->Q .br H'
theorem LA:af ["jar", "state", "dealing", "turn", "deed"] ["jar", "state", "dealing"] (aI G2):=.of
set_option maxHeartbeats 1000000 in
theorem aF8 (G:Fn K mg "_law_e_full" G2 ["jar", "state", "dealing"] f fd) (B:Bl mg) (yn:Fn K mg "_law_e_do" ze ["dealing", "deed"] fO dO) (Bu:ae P w K mg base ao 4 fO dO ["dealing", "deed"] (GV K C Pt)) (Bz:Fn K mg "_law_e_step" rK ["state", "deed"] fT dT) (Bs:ae P w K mg base ao 1 fT dT ["state", "deed"] (vM K)) (xb:Fn K mg "_law_e_able" qM ["jar", "hands"] fA dA) (w_:ae P w K mg base ao 3 fA dA ["jar", "hands"] (rO K)):ae P w K mg base ao 5 f fd ["jar", "state", "dealing"] (LB K C Pt Pl):=by
 refine G.fn.oK LA λbg A outer s H vs Q E hr h=>?_
 ·obtain ⟨t,a,ns,N,x,sp,D,S,rfl,W,hN,h0,k⟩:=h
  have hu:=bU hr
  have r4:aj 4 _:=hr
  have r3:aj 3 _:=hr.mono (by decide)
  have r1:aj 1 _:=hr.mono (by decide)
  refine ⟨_,aJ (hV PassesOwn.never rfl (dZ rfl B.range (aA aH aC)) (aV (i:=3) LA.nd rfl (Or.inl rfl))
    (aE (aX (i:=4) LA.nd rfl (Or.inl rfl) (cB (aA aK (aA (aW xb w_ r3 rfl (aA (pv 0) (aA (aQ hu (pv 1) aK (λ_ _=>rfl)) aC))) aC))))
    (aE (cK (aW Bz Bs r1 rfl (aA (pv 1) (aA (pv 4) aC))))
    (aJ (cK (aW yn Bu r4 rfl (aA (pv 2) (aA (pv 4) aC)))))))),?_⟩
  refine ⟨12,rfl,by decide,by decide,iO (lo:=0) (n:=(12:Int).toNat) (λi σ H1=>∃ (v3 v4:Option V) (D1:DD) (S1:SD),σ = [some (.ref t),some (.ref sp),some (.ref x),v3,v4]/\Wn K H1 C t a ns (N+8*i) Pt Pl x sp D1 S1/\S1.nums.length=i/\S1.n=S.n/\S1.bc=S.bc+i) ⟨none,none,D,S,rfl,W,by rw [h0]; rfl,rfl,by simp⟩ ?_ ?_⟩
  ·rintro i σ H1 hi ⟨v3,v4,D1,S1,rfl,W1,hl,hn,hd⟩
   have hi:i < 12:=hi
   dsimp only [bN]
   obtain ⟨hb1,hb6,_,_⟩:=aZ W1.p.sm.bk
   refine ⟨_,rfl,_,rfl,sp,_,rfl,W1.p.sh.dr (k:=.inr "hands") (cS S1),t,a,ns,N+8*i,S1.n,rfl,W1.c7,by omega,by omega,by omega,λl p H2 mj b2 J2 hp=>?_⟩
   refine ⟨i5 _ _,λdp fe=>?_⟩
   dsimp only [bN]
   have W2:=(W1.but b2 J2).same (aD.new (o:=.tup [.str "put",.ref p]) fe)
   have hE:gL K (upd H2 dp (.tup [.str "put",.ref p])) dp (.put p l):=⟨aq.of aB,(aD.new fe).ah hp⟩
   have hM:jJ S1 (.put p l):=⟨mj,by omega⟩
   generalize upd H2 dp (.tup [.str "put",.ref p])=H3 at W2 hE ⊢
   refine ⟨_,rfl,_,rfl,sp,dp,S1,.put p l,rfl,W2.p.sh,W2.p.sm,hE,hM,λH4 b4 yg=>?_⟩
   obtain ⟨ij,ms,mp⟩:=W2.kz b4
   refine ⟨_,rfl,_,rfl,x,dp,D1,S1,.put p l,rfl,ij,W2.p.dm,W2.p.lk,hE.keep b4 ms.nt mp.nt mp.nt,hM,b4.tab ms mp mp W2.pt,λDn H5 b5 da dh zy DQ Dm Q5=>?_⟩
   exact ⟨_,_,Dn,S1.step (.put p l),rfl,(W2.AE b4 yg b5 da dh zy DQ Dm hM).more (by omega),by show (S1.nums++[S1.bc]).length=_; rw [Qg,hl]; rfl,hn,by show S1.bc+1=_; rw [hd]; omega⟩
  ·rintro σ H1 ⟨v3,v4,D1,S1,rfl,W1,hl,hn,hd⟩
   exact k D1 S1 H1 hl hn hd W1
structure d8 (K:Rb) (H:Hp) (b_:List Addr) (es:List cp):Prop where
 len:b_.length=es.length
 all:∀ (i:Nat) dp e,b_[i]?=some dp->es[i]?=some e->gL K H dp e
section
variable {a x sp:Addr} {N:Nat} {b_ Q3:List Addr} {es fs:List cp} {e:cp}
theorem d8.nil:d8 K H [] []:=⟨rfl,λi dp e h=>by simp at h⟩
theorem d8.one (h:gL K H dp e):d8 K H [dp] [e]:=⟨rfl,λi dq e' h1 h2=>by
 cases i with
 | zero=>cases h1; cases h2; exact h
 | succ i=>simp at h1⟩
theorem d8.append (h:d8 K H b_ es) (g:d8 K H Q3 fs):d8 K H (b_++Q3) (es++fs):=⟨by rw [Qg,Qg,h.len,g.len],λi dp e h1 h2=>by
 by_cases c:i < b_.length
 ·rw [Qn c] at h1
  rw [Qn (by rw [<- h.len]; exact c)] at h2
  exact h.all i dp e h1 h2
 ·rw [Qr (by omega)] at h1
  rw [Qr (by rw [<- h.len]; omega),<- h.len] at h2
  exact g.all _ dp e h1 h2⟩
theorem d8.same (h:d8 K H b_ es) (q:aD H H1):d8 K H1 b_ es:=⟨h.len,λi dp e h1 h2=>(h.all i dp e h1 h2).same q⟩
theorem d8.but (h:d8 K H b_ es) (et:H t=some (.lst xs)) (b:ba t H H1):d8 K H1 b_ es:=⟨h.len,λi dp e h1 h2=>(h.all i dp e h1 h2).but et b⟩
theorem d8.cons (h:gL K H dp e) (g:d8 K H b_ es):d8 K H (dp::b_) (e::es):=(d8.one h).append g
theorem Wn.gf {ms:List Int} (W:Wn K H C t a ns N Pt Pl x sp D S) (hp:ms.Perm S.nums) (hs:ms.Pairwise (·<=·)):ms=S.nums:=xL hp (List.Perm.refl _) hs (W.p.sm.up.imp λh=>Int.le_of_lt h)
theorem Wn.i9 (W:Wn K H C t a ns N Pt Pl x sp D S):S.nums.length<=12/\1<=S.n/\S.n<=6:=by
 obtain ⟨h1,h6,lu,_⟩:=aZ W.p.sm.bk
 exact ⟨by rw [<- W.p.sm.len]; exact lu,h1,h6⟩
theorem aEK {x y:Int} (nd:l.Nodup) (hi:l[i]?=some x) (hj:l[j]?=some y) (n:i≠j):y∈l.eraseIdx (l.idxOf x):=by
 refine Zw.mpr ⟨j,λz=>?_,hj⟩
 have:=qW (Qe hi)
 rw [<- z,hj] at this
 have e:y=x:=Option.some.inj this
 obtain ⟨h1,e1⟩:=Qa.mp hi
 obtain ⟨h2,e2⟩:=Qa.mp hj
 exact n ((Zh nd).mp (by rw [e1,e2,e]))
theorem vS {x:Int} (h:x∈l):(l.eraseIdx (l.idxOf x)).length=l.length - 1:=by
 rw [Jf,if_pos (Yf h)]
end
def TQ (K:Rb) (C Pt Pl:Addr):Sp:=λvs H Q _=>∃ (t a:Addr) (ns:List Int) (N:Nat) (x sp:Addr) (D:DD) (S:SD),vs = [.ref t,.ref sp,.ref x]/\Wn K H C t a ns N Pt Pl x sp D S/\N<=500000/\S.nums.length=12/\∀ D' S' H',Wn K H' C t a ns (N+60) Pt Pl x sp D' S'->Q (.bl true) H'
theorem tI:af ["jar", "state", "dealing", "some", "deeds"] ["jar", "state", "dealing"] (aI uS):=.of
set_option maxHeartbeats 1000000 in
theorem aEL (G:Fn K mg "_law_e_full_again" uS ["jar", "state", "dealing"] f fd) (B:Bl mg) (j6:Fn K mg "_law_e_scoop" kQ ["jar", "many"] fS dS) (j5:ae P w K mg base ao 2 fS dS ["jar", "many"] (jM K)) (xb:Fn K mg "_law_e_able" qM ["jar", "hands"] fA dA) (w_:ae P w K mg base ao 3 fA dA ["jar", "hands"] (rO K)) (Hn:Fn K mg "_law_e_all_done" nB ["jar", "dealing", "state", "deeds"] fD dD) (Hj:ae P w K mg base ao 12 fD dD ["jar", "dealing", "state", "deeds"] (rT K C Pt Pl)) (Hl:Fn K mg "_law_e_word" uR ["dealing", "deed"] fW dW) (He:ae P w K mg base ao 5 fW dW ["dealing", "deed"] (zP K C)):ae P w K mg base ao 13 f fd ["jar", "state", "dealing"] (TQ K C Pt Pl):=by
 refine G.fn.oK tI λbg A outer s H vs Q E hr h=>?_
 ·obtain ⟨t,a,ns,N,x,sp,D,S,rfl,W,hN,lu,k⟩:=h
  have FJ:aj 12 _:=hr
  have r5:aj 5 _:=hr.mono (by decide)
  have r3:aj 3 _:=hr.mono (by decide)
  have r2:aj 2 _:=hr.mono (by decide)
  refine ⟨_,(aE (aX (i:=3) tI.nd rfl (Or.inl rfl) (aL (eR rfl) rfl B.sorted lC (aA (aQ (bU hr) (pv 1) aK (λ_ _=>rfl)) aC)))
  (aE (aX (i:=4) tI.nd rfl (Or.inl rfl) (gT (aA (cB (aA aK (aA (bM cM (pv 3) (aW j6 j5 r2 rfl (aA (pv 0) (aA aH aC))) (λ_ _=>rfl)) aC))) (aA (cB (aA aK (aA (bM cM (pv 3) (aY eD aH (aW j6 j5 r2 rfl (aA (pv 0) (aA aH aC)))) (λ_ _=>rfl)) aC))) aC))))
  (aE (aX (i:=4) tI.nd rfl (Or.inl rfl) (aY iB (pv 4) (gD (own:=["turn"]) (fr:=[0,1]) (bo:=["jar", "state"]) (bK (aI uS) ["jar", "state", "dealing", "some", "deeds"] rfl rfl (by decide +kernel)) rfl (dZ rfl B.range (aA aH aC))
    (λ_ _ _ _=>(aV (i:=0) (show (["turn", "jar", "state"]:List Str).Nodup by decide +kernel) rfl (Or.inl rfl))) (λ_ _ _ _=>eM)
    (λ_ _ _ _=>(cB (aA aK (aA (aW xb w_ r3 rfl (aA (pv 1) (aA (aQ (bU hr) (pv 2) aK (λ_ _=>rfl)) aC))) aC)))))))
  (aE (bI (bV (bL (aW Hn Hj FJ rfl (aA (pv 0) (aA (pv 2) (aA (pv 1) (aA (pv 4) aC)))))))
   (aJ (aR fY))
   aS)
  (aJ (aR (gN dX (aW Hl He r5 rfl (aA (pv 2) (aA (cB (aA aK (aA (aW xb w_ r3 rfl (aA (pv 0) (aA (aQ (bU hr) (pv 1) aK (λ_ _=>rfl)) aC))) aC))) aC))) aK (aU _)))))))),?_⟩
  obtain ⟨i9,n1,n6⟩:=W.i9
  refine ⟨_,rfl,sp,_,rfl,W.p.sh.dr (k:=.inr "able") (cX S),S.ap,_,S.nums,rfl,.inl W.p.sh.ai,jG W.p.sh.tl,by omega,λp ms hp iy m7=>?_⟩
  dsimp only [bN]
  have em:=W.gf iy m7
  subst em
  have W1:=W.same (aD.new (o:=.lst (S.nums.map V.int)) hp)
  have e1:upd H p (.lst (S.nums.map V.int)) p=some (.lst (S.nums.map V.int)):=aB
  have FO:p≠t:=W.c7.ne hp
  generalize upd H p (.lst (S.nums.map V.int))=H1 at W1 e1 ⊢
  have dk:S.nums.Nodup:=Jd.mpr (W.p.sm.up.imp λh=>Jz h)
  refine ⟨_,rfl,_,rfl,t,a,ns,N,6,rfl,W1.c7,by omega,by decide,by decide,λr1 H2 N_ r16 b2 J2=>?_⟩
  have W2:=W1.but b2 J2
  have e2:=b2 _ _ FO e1
  obtain ⟨k1,zv⟩:∃ k1,S.nums[r1.toNat]?=some k1:=⟨_,Qb (by omega)⟩
  refine ⟨p,_,r1,.int k1,rfl,rfl,au.of e2,?_,i5 _ _,λd1 j0=>?_⟩
  ·rw [show r1=((r1.toNat:Nat):Int) by omega]
   exact gA (by rw [Qi,zv]; rfl)
  have W3:=W2.same (aD.new (o:=.tup [.str "take",.int k1]) j0)
  have e3:=aD.new (o:=.tup [.str "take",.int k1]) j0 _ _ e2
  have g3:gL K (upd H2 d1 (.tup [.str "take",.int k1])) d1 (.take k1):=aq.of aB
  generalize upd H2 d1 (.tup [.str "take",.int k1])=H3 at W3 e3 g3 ⊢
  refine ⟨_,rfl,_,rfl,t,a,ns,N+1,6,rfl,W3.c7,by omega,by decide,by decide,λxk H4 r20 r26 b4 J4=>?_⟩
  have W4:=W3.but b4 J4
  have e4:=b4 _ _ FO e3
  obtain ⟨WS,CP⟩:=W3.c7.lst
  have g4:=g3.but CP b4
  obtain ⟨k2,we⟩:∃ k2,S.nums[6+xk.toNat]?=some k2:=⟨_,Qb (by omega)⟩
  refine ⟨6,xk,rfl,rfl,p,_,6+xk,.int k2,rfl,rfl,au.of e4,?_,i5 _ _,λd2 hd2=>?_⟩
  ·rw [show 6+xk=((6+xk.toNat:Nat):Int) by omega]
   exact gA (by rw [Qi,we]; rfl)
  have s5:=aD.new (o:=.tup [.str "take",.int k2]) hd2
  have W5:=W4.same s5
  have g5:=g4.same s5
  have q5:gL K (upd H4 d2 (.tup [.str "take",.int k2])) d2 (.take k2):=aq.of aB
  generalize upd H4 d2 (.tup [.str "take",.int k2])=H5 at W5 g5 q5 ⊢
  refine ⟨i5 _ _,λl1 yb=>?_⟩
  dsimp only [bN]
  have s6:=aD.new (o:=.lst [.ref d1,.ref d2]) yb
  have W6:=W5.same s6
  have Q1:d8 K (upd H5 l1 (.lst [.ref d1,.ref d2])) [d1,d2] [.take k1,.take k2]:=d8.cons (g5.same s6) (d8.one (q5.same s6))
  have YE:l1≠t:=W5.c7.ne yb
  have e6:upd H5 l1 (.lst [.ref d1,.ref d2]) l1=some (.lst [.ref d1,.ref d2]):=aB
  generalize upd H5 l1 (.lst [.ref d1,.ref d2])=H6 at W6 Q1 e6 ⊢
  refine ⟨_,rfl,2,rfl,by decide,by decide,?_⟩
  refine jV (n:=2) (lo:=0) (λσ=>∃ u,σ = [u,some (.ref t),some (.ref sp)]) (λi ys H7=>Wn K H7 C t a ns (N+2+8*i) Pt Pl x sp D S/\H7 l1=some (.lst [.ref d1,.ref d2])/\d8 K H7 [d1,d2] [.take k1,.take k2]/\∃ b_ es,ys=b_.map V.ref/\d8 K H7 b_ es/\es.length=i/\∀ e∈es,∃ p l,e=.put p l/\cA S.n (gF l)=true) (iI (by decide)) ⟨none,rfl⟩ ⟨W6,e6,Q1,[],[],rfl,d8.nil,rfl,λe he=>by simp at he⟩ ?_ ?_ ?_
  ·rintro i ys H7 ⟨_,_,_,b_,es,rfl,h1,h2,_⟩
   rw [Qd,h1.len,h2]; exact Qh _
  ·rintro i ys σ H7 hi ⟨u,rfl⟩ ⟨W7,e7,KL,b_,es,rfl,hA,hl,hw⟩ hz
   refine cQ ?_
   refine ⟨_,rfl,_,rfl,sp,_,rfl,W7.p.sh.dr (k:=.inr "hands") (cS S),t,a,ns,_,S.n,rfl,W7.c7,by omega,n1,n6,λl p H8 mj b8 J8 ZP=>?_⟩
   obtain ⟨xs7,GA⟩:=W7.c7.lst
   refine ⟨i5 _ _,λdp fe=>⟨hz,⟨_,rfl⟩,((W7.but b8 J8).same (aD.new fe)).more (by omega),aD.new fe _ _ (b8 _ _ YE e7),(KL.but GA b8).same (aD.new fe),b_++[dp],es++[.put p l],by rw [Qw]; rfl,((hA.but GA b8).same (aD.new fe)).append (d8.one (e:=.put p l) ⟨aq.of aB,(aD.new fe).ah ZP⟩),by rw [Qg,hl]; rfl,λe he=>?_⟩⟩
   rcases Jg.mp he with h | h
   ·exact hw e h
   ·exact ⟨p,l,Qx.mp h,mj⟩
  ·rintro ys H7 ⟨W7,e7,KL,b_,es,rfl,hA,hl,hw⟩ l2 mn
   have s8:=aD.new (o:=.lst (b_.map V.ref)) mn
   have nl2:l2≠l1:=λz=>by rw [z,e7] at mn; cases mn
   refine ⟨l1,l2,_,_,rfl,rfl,s8 _ _ e7,aB,by rw [Qd,hA.len,hl,Rf]; simp,λl3 A3=>?_⟩
   dsimp only [bN]
   have s9:=s8.trans (aD.new (o:=.lst ([V.ref d1,.ref d2]++b_.map V.ref)) A3)
   have W9:=W7.same s9
   have Oj:l3≠t:=(W7.same s8).c7.ne A3
   have KJ:=(KL.append hA).same s9
   have e9:upd (upd H7 l2 (.lst (b_.map V.ref))) l3 (.lst ([V.ref d1,.ref d2]++b_.map V.ref)) l3=some (.lst (([d1,d2]++b_).map V.ref)):=aB
   generalize upd (upd H7 l2 (.lst (b_.map V.ref))) l3 (.lst ([V.ref d1,.ref d2]++b_.map V.ref))=H9 at W9 KJ e9 ⊢
   obtain ⟨a1,a2,rfl⟩:∃ a1 a2,es = [a1,a2]:=by
    match es,hl with
    | [a1,a2],_=>exact ⟨a1,a2,rfl⟩
   obtain ⟨p1,m1,rfl,w1⟩:=hw a1 (by simp)
   obtain ⟨p2,m2,rfl,w2⟩:=hw a2 (by simp)
   have Ot:k1∈S.nums:=Qe zv
   have Oq:k2∈(S.step (.take k1)).nums:=aEK dk zv we (by omega)
   have L1:(S.step (.take k1)).nums.length=S.nums.length - 1:=vS Ot
   have L2:((S.step (.take k1)).step (.take k2)).nums.length=(S.step (.take k1)).nums.length - 1:=vS Oq
   have hM:iJ S ([.take k1,.take k2]++[.put p1 m1,.put p2 m2]):=⟨Ot,Oq,⟨w1,by show ((S.step (.take k1)).step (.take k2)).nums.length < 12; rw [L2,L1]; omega⟩,⟨w2,by show (((S.step (.take k1)).step (.take k2)).nums++[_]).length < 12; rw [Qg,L2,L1]; simp; omega⟩,trivial⟩
   refine ⟨_,rfl,_,rfl,_,rfl,_,rfl,t,a,ns,N+2+8*2,x,sp,l3,D,S,_,_,rfl,W9,by simp; omega,Oj.symm,⟨e9,KJ.len,KJ.all⟩,hM,λD' V5 wz=>⟨true,rfl,bJ rfl ?_⟩⟩
   have IQ:((List.foldl SD.step S ([.take k1,.take k2]++[.put p1 m1,.put p2 m2])).nums).length=12:=by
    show ((((S.step (.take k1)).step (.take k2)).nums++[_])++[_]).length=12
    rw [Qg,Qg,L2,L1,lu]; rfl
   have l5:(N+2+8*2)+5*([cp.take k1,cp.take k2]++[cp.put p1 m1,cp.put p2 m2]).length=N+38:=by simp
   rw [l5] at wz
   generalize List.foldl SD.step S ([.take k1,.take k2]++[.put p1 m1,.put p2 m2])=Em at wz IQ
   obtain ⟨_,YW,YO⟩:=wz.i9
   refine ⟨_,rfl,_,rfl,_,rfl,sp,_,rfl,wz.p.sh.dr (k:=.inr "hands") (cS Em),t,a,ns,_,Em.n,rfl,wz.c7,by omega,YW,YO,λl q H11 mj R? J11 hq=>?_⟩
   refine ⟨i5 _ _,λdp fe=>?_⟩
   have Ek:=(wz.but R? J11).same (aD.new (o:=.tup [.str "put",.ref q]) fe)
   have hB:zO K (upd H11 dp (.tup [.str "put",.ref q])) dp D' 10:=.inl ⟨.ref q,gF l,aq.of aB,bC.mpr ⟨q,_,rfl,(aD.new fe).ah hq,cI.mpr rfl⟩,.inr ⟨by rw [Ek.p.lk.n]; exact mj,by rw [Ek.p.lk.nums]; exact IQ,rfl⟩⟩
   exact ⟨.ref x,.ref dp,10, "many",rfl,by decide,rfl,.inr ⟨x,dp,D',rfl,rfl,Ek.p.dh,by rw [Ek.p.lk.nums,IQ]; exact Qh _,hB⟩,λH13 xi=>⟨rfl,by rw [qV]; exact k D' Em H13 ((Ek.same xi).more (by omega))⟩⟩
end Ab
namespace L2
open PySem
theorem aF9 {S:List Addr} {σ:St}:Al H0 S (tC v) σ (λ_ x=>x=v):=Ec rfl
theorem TN {S:List Addr} {σ:St} {i:Int}:Al H0 S (FE (rU λi=>.int (-i)) (tC (.int i))) σ λ_ v=>v=.int (-i):=λH s f Q k=>⟨i,rfl,k _ H (aD.refl H) rfl⟩
theorem Vw.grow {S:List Addr} {o:HO} (h:H p=none):aD (Vw S H) (Vw (p::S) (upd H p o)):=λb u e=>by
 have hb:b∉S:=λz=>by unfold Vw at e; rw [if_pos z] at e; cases e
 rw [Vw.out hb] at e
 have n:b≠p:=λz=>by rw [z,h] at e; cases e
 rw [Vw.out (λz=>by rcases Ql.mp z with z | z; exact n z; exact hb z),aF n]
 exact e
theorem TM {st:Expr} (hK:X.K=K) (he:PE X e te) (ig:PE X st ts):PE X (.Subscript e (.Slice none none (some st) p2) pos) (GP K te ts):=by subst hK; exact aGZ he ig
theorem vT:∀ {ds:List PyData} {zs:List V},bP K H ds zs->bP K H ds.reverse zs.reverse
 | [],zs,h=>by rw [bY.mp h]; exact bY.mpr rfl
 | d::ds,zs,h=>by
  obtain ⟨v,vs,rfl,h1,h2⟩:=bG.mp h
  rw [Zr,Zr]
  exact kO (vT h2) (bG.mpr ⟨v,[],rfl,h1,bY.mpr rfl⟩)
section
variable {S:List Addr} {σ:St} {t:TA} {tl th:TO} {es:List PyData}
def ED (K:Rb) (S:List Addr) (d:PyData):Hp->V->Prop:=λH v=>Den K (Vw S H) d v
instance:Mo (ED K S d):=⟨λe h=>(Vw.same e).den _ _ h⟩
def EG (H0:Hp) (K:Rb) (S:List Addr) (ds:List PyData) (t:TA) (σ:St):Prop:=∀ H,aD H0 H->Fx S H->∀ Q:List V->Hp->Prop,(∀ vs H',aD H H'->bP K (Vw S H') ds vs->Q vs H')->t σ H Q
theorem eL:EG H0 K S [] oF σ:=λH _ _ Q k=>k [] H (aD.refl H) (bY.mpr rfl)
theorem cD (h:Al H0 S te σ (ED K S d)) (r:EG H0 K S ds tr σ):EG H0 K S (d::ds) (iL te tr) σ:=λH s f Q k=>h H s f _ λv H1 s1 d1=>r H1 (s.trans s1) (f.same s1) _ λvs H2 s2 d2=>k _ _ (s1.trans s2) (bG.mpr ⟨v,vs,rfl,(Vw.same s2).den _ _ d1,d2⟩)
theorem dF {i:Int}:Al H0 S (tC (.int i)) σ (ED K S (.int i)):=Ec (R:=ED K S (.int i)) (cF.mpr rfl)
theorem zR:Al H0 S (tC .br) σ (ED K S .none):=Ec (R:=ED K S .none) (tW.mpr rfl)
theorem sL {b:Bool}:Al H0 S (tC (.bl b)) σ (ED K S (.bool b)):=Ec (R:=ED K S (.bool b)) (tV.mpr rfl)
theorem vU {b:Str}:Al H0 S (tC (.str b)) σ (ED K S (.str b)):=Ec (R:=ED K S (.str b)) (sS.mpr rfl)
theorem jA {a:Int} (h:σ[i]?=some (some (.int a))):Al H0 S (pQ i) σ (ED K S (.int a)):=rF (R:=ED K S (.int a)) h (cF.mpr rfl)
theorem vV {g:Int->Int->Int} {a b:Int} (ha:Al H0 S ta σ (ED K S (.int a))) (hb:Al H0 S tb σ (ED K S (.int b))):Al H0 S (xf (xj λi j=>.int (g i j)) ta tb) σ (ED K S (.int (g a b))):=λH s f Q k=>ha H s f _ λv H1 s1 d1=>hb H1 (s.trans s1) (f.same s1) _ λu H2 s2 d2=>⟨a,b,cF.mp d1,cF.mp d2,k _ H2 (s1.trans s2) (cF.mpr rfl)⟩
theorem Ee {g:Int->Int} {a:Int} (ha:Al H0 S ta σ (ED K S (.int a))):Al H0 S (FE (rU λi=>.int (g i)) ta) σ (ED K S (.int (g a))):=λH s f Q k=>ha H s f _ λv H1 s1 d1=>⟨a,cF.mp d1,k _ H1 s1 (cF.mpr rfl)⟩
theorem iU (h:EG H0 K S ds t σ) (hn:ds.length<=1000:=by simp):Al H0 S (Ai t) σ (ED K S (.tuple ds)):=λH s f Q k=>h H s f _ λvs H1 s1 d=>⟨by rw [bZ d,Rf]; omega,λp hp=>k _ _ (s1.trans (aD.new hp)) (bC.mpr ⟨p,vs,rfl,aq.of (Vw.at (f.same s1) hp),(Vw.same (aD.new hp)).cu _ _ d⟩)⟩
theorem zS (h:EG H0 K S ds t σ) (hn:ds.length<=1000:=by simp):Al H0 S (Ea t) σ (ED K S (.list ds)):=λH s f Q k=>h H s f _ λvs H1 s1 d=>⟨by rw [bZ d,Rf]; omega,λp hp=>k _ _ (s1.trans (aD.new hp)) (kW.mpr ⟨p,vs,rfl,au.of (Vw.at (f.same s1) hp),(Vw.same (aD.new hp)).cu _ _ d⟩)⟩
theorem vW (ha:Al H0 S ta σ (ED K S (.tuple ds))) (hb:Al H0 S tb σ (ED K S (.tuple es))) (hn:ds.length+es.length<=1000):Al H0 S (xf (Ss K) ta tb) σ (ED K S (.tuple (ds++es))):=λH s f Q k=>ha H s f _ λv H1 s1 d1=>hb H1 (s.trans s1) (f.same s1) _ λu H2 s2 d2=>by
 obtain ⟨p,xs,rfl,g,ui⟩:=bC.mp ((Vw.same s2).den _ _ d1)
 obtain ⟨q,ys,rfl,g',p_⟩:=bC.mp d2
 exact ⟨p,q,xs,ys,rfl,rfl,Vw.sub.ah g,Vw.sub.ah g',by rw [Rf,bZ ui,bZ p_]; omega,λr H3 s3 g3=>k _ _ (s1.trans (s2.trans s3)) (bC.mpr ⟨r,_,rfl,(((f.same s1).same s2).same s3).ah g3,kO ((Vw.same s3).cu _ _ ui) ((Vw.same s3).cu _ _ p_)⟩)⟩
theorem SE (ha:Al H0 S ta σ (ED K S (.tuple ds))) (hm:Al H0 S tb σ λ_ v=>v=.int m):Al H0 S (HB (K6 K) ta xV (K' tb)) σ (ED K S (.tuple (ds.take m))):=λH s f Q k=>ha H s f _ λv H1 s1 d1=>hm H1 (s.trans s1) (f.same s1) _ λu H2 s2 e=>by
 obtain ⟨p,xs,rfl,g,ui⟩:=bC.mp ((Vw.same s2).den _ _ d1)
 exact ⟨m,e,p,xs,rfl,Vw.sub.ah g,λr H3 s3 g3=>k _ _ (s1.trans (s2.trans s3)) (bC.mpr ⟨r,_,rfl,(((f.same s1).same s2).same s3).ah (by rw [<- UR]; exact g3),L2.sC m ((Vw.same s3).cu _ _ ui)⟩)⟩
theorem aGa (ha:Al H0 S ta σ (ED K S (.tuple ds))) (hm:Al H0 S tb σ λ_ v=>v=.int m):Al H0 S (HB (K6 K) ta (K' tb) xV) σ (ED K S (.tuple (ds.drop m))):=λH s f Q k=>ha H s f _ λv H1 s1 d1=>hm H1 (s.trans s1) (f.same s1) _ λu H2 s2 e=>by
 obtain ⟨p,xs,rfl,g,ui⟩:=bC.mp ((Vw.same s2).den _ _ d1)
 exact ⟨m,e,p,xs,rfl,Vw.sub.ah g,λr H3 s3 g3=>k _ _ (s1.trans (s2.trans s3)) (bC.mpr ⟨r,_,rfl,(((f.same s1).same s2).same s3).ah (by rw [<- wW]; exact g3),sD m ((Vw.same s3).cu _ _ ui)⟩)⟩
theorem aDe (ha:Al H0 S ta σ (ED K S (.tuple ds))):Al H0 S (FF (UP K) (iL ta oF)) σ (ED K S (.list ds)):=λH s f Q k=>ha H s f _ λv H1 s1 d1=>by
 obtain ⟨p,xs,rfl,g,ui⟩:=bC.mp d1
 exact ⟨p,xs,rfl,.inr (Vw.sub.ah g),λq hq=>k _ _ (s1.trans (aD.new hq)) (kW.mpr ⟨q,xs,rfl,au.of (Vw.at (f.same s1) hq),(Vw.same (aD.new hq)).cu _ _ ui⟩)⟩
theorem kT (h:σ[i]?=some (some v)) (r:Den K (Vw S H0) d v):Al H0 S (pQ i) σ (ED K S d):=rF (R:=ED K S d) h r
theorem TL:Al H0 S S5 σ (ED K S (.dict [])):=λH s f Q k p hp=>k (.ref p) _ (aD.new hp) (U2.mpr ⟨rfl,p,rfl,Vw.at f hp⟩)
theorem SN (ha:Al H0 S ta σ (ED K S (.tuple ds))) (hs:Al H0 S tb σ λ_ v=>v=.int (-1)):Al H0 S (GP K ta tb) σ (ED K S (.tuple ds.reverse)):=λH s f Q k=>ha H s f _ λv H1 s1 d1=>hs H1 (s.trans s1) (f.same s1) _ λu H2 s2 e=>by
 obtain ⟨p,vs,rfl,g,dv⟩:=bC.mp d1
 have F?:=(Vw.same s2).cu _ _ dv
 exact ⟨e,p,vs,rfl,s2.ah (Vw.sub.ah g),λq hq=>k _ _ (s1.trans (s2.trans (aD.new hq))) (bC.mpr ⟨q,_,rfl,aq.of (Vw.at ((f.same s1).same s2) hq),vT ((Vw.same (aD.new hq)).cu _ _ F?)⟩)⟩
end
section
variable {t u:TS} {D:Ends} {σ:St}
theorem gM (h:te σ H λv H1=>u D (σ.set i (some v)) H1):CZ (Bo te (bN i)) u D σ H:=h
theorem pP (h:t { D with nx:=u D } σ H):CZ t u D σ H:=h
theorem qY {tb:TS} (h:tl σ H λx H1=>∃ a,x=.ref a/\(∃ xs,au K H1 a xs)/\∃ W:Nat->Nat->St->Hp->Prop,(∃ m,W 0 m σ H1)/\∀ i m σ H,W i m σ H ->
 ((xa K a).stop i H/\D.nx σ H)∨((xa K a).go i H/\∃ N:St->Hp->Prop,(∀ ak H',N ak H'->∃ m',m' < m/\W (i+1) m' ak H')/\∀ x H',(xa K a).pw i H x H'->g x σ H' λaz H2=>tb { D with nx:=N,ct:=N,bk:=D.nx } az H2)):GY (Lb K tl) g tb D σ H:=h
theorem iK {c:TT} (R:St->Hp->Prop) (body:(∀ ak H',R ak H'->u D ak H')->Eb c t jS { D with nx:=λak H'=>u D ak H' } σ H) (bO:∀ ak H',R ak H'->u D ak H'):CZ (Eb c t jS) u D σ H:=body bO
end
end L2
namespace L2
open PySem PySem.Spec PyProof.Rows
theorem cY:gp X [] jS:=⟨aS⟩
theorem fX {c:Expr} {a b:List Stmt} {t u:TS} (hc:PT X c tc) (ha:gp X a t) (hb:gp X b u):Br X (.If c a b pos) (Eb tc t u):=⟨bI hc ha.go hb.go⟩
theorem oE {wi:TI} {tb:TS} (hp:PassesOwn (model X.prog X.w) X.A X.env X.xe) (hc:X.calm=true) (hi:PI X tg iter wi) (hg:PG X tg g) (hb:gp X body tb) (hs:∀ x,foldedSetIterable iter X.env x=pure x):Br X (.For tg iter body [] pos) (GY wi g tb):=⟨hV hp hc hi hg hb.go hs⟩
theorem kC {t u:TS} {D:Ends} {σ:St} (I:St->Hp->Prop) (h1:∀ N:St->Hp->Prop,(∀ ak H',I ak H'->N ak H')->t { D with nx:=N } σ H) (h2:∀ ak H',I ak H'->u D ak H'):CZ t u D σ H:=h1 _ h2
end L2
namespace Ab
open PySem L2
theorem ba.vw {S:List Addr} (e:ba t H H') (h:t∈S):aD (Vw S H) (Vw S H'):=Vw.keep λb o n q=>e b o (λz=>n (z ▸ h)) q
section
variable {S:List Addr} {σ:St} {t:TA} {tl th:TO}
def jd (K:Rb) (R:PyData->Prop) (S:List Addr) (H:Hp) (z:V):Prop:=∃ d,Den K (Vw S H) d z/\R d
theorem jd.keep {R:PyData->Prop} {S S':List Addr} {z:V} (h:jd K R S H z) (e:aD (Vw S H) (Vw S' H')):jd K R S' H' z:=let ⟨d,h1,h2⟩:=h; ⟨d,e.den _ _ h1,h2⟩
instance {R:PyData->Prop}:Mo (jd K R S):=⟨λe h=>h.keep (Vw.same e)⟩
theorem ED.dep {R:PyData->Prop} (h:Al H0 S te σ (ED K S d)) (r:R d):Al H0 S te σ (jd K R S):=h.mono λ_ _ x=>⟨d,x,r⟩
def EI (H0:Hp) (K:Rb) (R:PyData->Prop) (S:List Addr) (n:Nat) (t:TA) (σ:St):Prop:=∀ H,aD H0 H->Fx S H->∀ Q:List V->Hp->Prop,(∀ vs H',aD H H'->vs.length=n->(∀ v∈vs,jd K R S H' v)->Q vs H')->t σ H Q
theorem mC {R:PyData->Prop}:EI H0 K R S 0 oF σ:=λH _ _ Q k=>k [] H (aD.refl H) rfl (λ_ h=>(Qt h).elim)
theorem aT {R:PyData->Prop} (h:Al H0 S te σ (jd K R S)) (r:EI H0 K R S n tr σ):EI H0 K R S (n+1) (iL te tr) σ:=λH s f Q k=>h H s f _ λv H1 s1 d1=>r H1 (s.trans s1) (f.same s1) _ λvs H2 s2 l d2 =>
 k (v::vs) H2 (s1.trans s2) (by rw [Jo,l]) λx hx=>by
  rcases Ql.mp hx with rfl | hx
  ·exact d1.keep (Vw.same s2)
  ·exact d2 x hx
structure LI (K:Rb) (R:PyData->Prop) (S0:List Addr) (H0:Hp) (fl:Addr) (N:Nat) (H:Hp):Prop where
 same:aD H0 H
 f0:Fx S0 H0
 has:∃ xs,H fl=some (.lst xs)/\xs.length<=N/\∀ z∈xs,jd K R (fl::S0) H z
variable {R:PyData->Prop} {S0:List Addr} {fl:Addr} {N M:Nat}
theorem LI.fx (I:LI K R S0 H0 fl N H):Fx (fl::S0) H:=λb hb=>by
 rcases Ql.mp hb with rfl | hb
 ·obtain ⟨xs,h,_⟩:=I.has; exact ⟨_,h⟩
 ·exact (I.f0.same I.same) b hb
theorem LI.next (I:LI K R S0 H0 fl N H) (s:aD H H') (h:N<=M):LI K R S0 H0 fl M H' :=
 ⟨I.same.trans s,I.f0,let ⟨xs,h1,h2,h3⟩:=I.has; ⟨xs,s _ _ h1,Ja h2 h,λz hz=>(h3 z hz).keep (Vw.same s)⟩⟩
theorem LI.app {z:V} (hf:H0 fl=none) (I:LI K R S0 H0 fl N H) (s:aD H H1) (hz:jd K R (fl::S0) H1 z) (hN:N<=1000) :
  ∃ xs,H1 fl=some (.lst xs)/\xs.length < sizeLine/\LI K R S0 H0 fl (N+1) (upd H1 fl (.lst (xs++[z]))):=by
 obtain ⟨xs,h1,h2,h3⟩:=I.has
 refine ⟨xs,s _ _ h1,by rw [Rf]; omega,λb o h=>?_,I.f0,_,aB,by rw [Qg]; show _+1<=_; omega,λy hy=>?_⟩
 ·rw [aF (λe=>by rw [e,hf] at h; cases h)]
  exact s _ _ (I.same _ _ h)
 ·have kp:aD (Vw (fl::S0) H1) (Vw (fl::S0) (upd H1 fl (.lst (xs++[z])))):=ba.vw (t:=fl) ba.at (Qp ..)
  rcases Jg.mp hy with hy | hy
  ·exact ((h3 y hy).keep (Vw.same s)).keep kp
  ·rw [Qx.mp hy]
   exact hz.keep kp
theorem SM {D:Ends} {q:Nat} (hf:H0 fl=none) (I:LI K R S0 H0 fl N H) (hN:N<=1000) (hq:σ[q]?=some (some (.ref fl)))
  (he:Al H (fl::S0) te σ (jd K R (fl::S0))) (k:∀ H',ba fl H H'->LI K R S0 H0 fl (N+1) H'->D.nx σ H'):Lc (FG K "list" sR (pQ q) (iL te oF)) D σ H:=by
 obtain ⟨Fw,h1,_⟩:=I.has
 refine ⟨_,hq,.inl ⟨rfl,_,au.of h1⟩,G_ I.fx he λz H1 s1 hz=>?_⟩
 obtain ⟨xs,e1,e2,I2⟩:=LI.app hf I s1 hz hN
 exact ⟨fl,xs,z,rfl,rfl,e1,e2,k _ ((ba.of s1).trans ba.at) I2⟩
theorem tJ {Q:VK} {t:TA} (f:Fx S H) (h:EI H K R S n t σ) (k:∀ p xs H1,aD H H1->H1 p=none->xs.length=n->(∀ x∈xs,jd K R S H1 x)->Q (.ref p) (upd H1 p (.lst xs))) (hn:n<=1000:=by decide):Ea t σ H Q :=
 h H (aD.refl H) f _ λvs H1 s1 l d=>⟨by rw [l]; exact Jh (wV hn),λp hp=>k p vs H1 s1 hp l d⟩
theorem LI.begin (f0:Fx S0 H0) (s:aD H0 H1) (hp:H1 p=none) (hN:xs.length<=N) (h:∀ x∈xs,jd K R S0 H1 x):LI K R S0 H0 p N (upd H1 p (.lst xs)):=⟨s.trans (aD.new hp),f0,xs,aB,hN,λz hz=>(h z hz).keep (Vw.grow hp)⟩
theorem Vw.less {S:List Addr}:aD (Vw (p::S) H) (Vw S H):=λb o h=>by
 have n:b∉p::S:=λz=>by unfold Vw at h; rw [if_pos z] at h; cases h
 rw [Vw.out n] at h
 rw [Vw.out λz=>n (Qk _ z)]
 exact h
theorem Vw.swap {o:HO} {S:List Addr} (hp:H p=none):aD (Vw (fl::S) H) (Vw (p::S) (upd H p o)):=λb u e=>by
 have hb:b∉fl::S:=λz=>by unfold Vw at e; rw [if_pos z] at e; cases e
 rw [Vw.out hb] at e
 have n:b≠p:=λz=>by rw [z,hp] at e; cases e
 rw [Vw.out λz=>by
  rcases Ql.mp z with z | z
  ·exact n z
  ·exact hb (Qk _ z),aF n]
 exact e
def V3 (K:Rb) (R:PyData->Prop) (S:List Addr) (m:Nat):Hp->V->Prop:=λH v=>∃ q ys,v=.ref q/\H q=some (.lst ys)/\ys.length<=m/\∀ y∈ys,jd K R S H y
theorem Lz {S:List Addr} {t:TA} (h:EI H0 K R S n t σ) (hn:n<=1000:=by decide):Al H0 S (Ea t) σ (V3 K R S n):=λH s f Q k=>h H s f _ λvs H1 s1 l d=>⟨by rw [l]; exact Jh (wV hn),λp hp=>k _ _ (s1.trans (aD.new hp)) ⟨p,vs,rfl,aB,Zt l,λy hy=>(d y hy).keep (Vw.same (aD.new hp))⟩⟩
theorem Ly {Q:VK} (hf:H0 fl=none) (I:LI K R S0 H0 fl N H) (hb:Al H (fl::S0) tb σ (V3 K R (fl::S0) m)) (hN:N+m<=1000) (k:∀ p H',H0 p=none->aD H H'->LI K R S0 H0 p (N+m) H'->Q (.ref p) H'):tb σ H λy H2=>RX (.ref fl) y H2 Q :=
 G_ I.fx hb λv H1 s1 ⟨q,ys,e,hq,hl,hy⟩=>by
  obtain ⟨xs,h1,h2,h3⟩:=(I.next s1 (Qh _)).has
  refine ⟨fl,q,xs,ys,rfl,e,h1,hq,by rw [Rf]; omega,λp hp=>?_⟩
  have p0:H0 p=none:=by
   cases z:H0 p with
   | none=>rfl
   | some o=>rw [s1 _ _ (I.same _ _ z)] at hp; cases hp
  refine k p _ p0 (s1.trans (aD.new hp)) ⟨I.same.trans (s1.trans (aD.new hp)),I.f0,_,aB,by rw [Qg]; omega,λz hz=>?_⟩
  rcases Jg.mp hz with hz | hz
  ·exact (h3 z hz).keep (Vw.swap hp)
  ·exact (hy z hz).keep (Vw.swap hp)
end
def zT (n:Int) (d:PyData):Prop:=cA n d=false
def D_ (n:Int) (d:PyData):Prop:=∀ i,d=.int i->¬ (0<=i/\i < n)
theorem xQ {n:Int}:∀ {ds:List PyData} {last:Int},cT n last ds=true->∀ d∈ds,∃ i,d=.int i/\last < i/\i < n
 | [],_,_,d,hd=>absurd hd (by simp)
 | e::r,last,h,d,hd=>by
  cases e with
  | int i =>
   simp only [cT,Jc,decide_eq_true_eq] at h
   rcases Ql.mp hd with rfl | hd
   ·exact ⟨i,rfl,h.1.1,h.1.2⟩
   ·obtain ⟨j,e,h1,h2⟩:=xQ h.2 d hd
    exact ⟨j,e,by omega,h2⟩
  | none=>simp [cT] at h
  | bool b=>simp [cT] at h
  | str b=>simp [cT] at h
  | list b=>simp [cT] at h
  | tuple b=>simp [cT] at h
  | dict b=>simp [cT] at h
theorem zU {n:Int} (hd:d∈ds) (h:D_ n d):zT n (.tuple ds):=by
 refine Bool.eq_false_iff.mpr λe=>?_
 have e2:cT n (-1) ds=true:=by
  have:(!ds.isEmpty && cT n (-1) ds)=true:=e
  rw [Jc] at this
  exact this.2
 obtain ⟨i,ei,h1,h2⟩:=xQ e2 d hd
 exact h i ei ⟨by omega,h2⟩
theorem mF {n:Int} (e:ds=l.map .int) (h:¬ l.Pairwise (· < ·)):zT n (.tuple ds):=by
 subst e
 exact Bool.eq_false_iff.mpr λe=>h (bA (l:=l) e).2.2
theorem U_ {a b:List Int} {x:Int} (ha:x∈a) (hb:x∈b):¬ (a++b).Pairwise (· < ·):=λh=>by
 have:=(Zf.mp h).2.2 x ha x hb
 omega
theorem aEP (h:l.Pairwise (· < ·)) (h2:1 < l.length):¬ l.reverse.Pairwise (· < ·):=λg=>by
 match l,h,h2,g with
 | x::y::r,h,_,g =>
  have h1:x < y:=(Xa.mp h).1 y (by simp)
  have h2:=List.pairwise_reverse.mp g
  have h3:y < x:=(Xa.mp h2).1 y (by simp)
  omega
theorem aHq {n:Int} (hn:n<=6) (h:cA n (gF l)=true):l.length<=6:=by
 obtain ⟨_,h2,h3⟩:=bA h
 refine nW 6 l (h3.imp λz=>Jz z) λx hx=>?_
 have:=h2 x hx
 omega
def xR (K:Rb):Sp:=λvs H Q _=>∃ (S:List Addr) (t a:Addr) (ns:List Int) (N:Nat) (n:Int),vs = [.ref t,.int n]/\Fx S H/\t∈S/\c9 K H t a ns N/\N<=700000/\1<=n/\n<=6/\∀ p xs H',H p=none->ba t H H'->c9 K H' t a ns (N+10)->H' p=some (.lst xs)->xs.length<=100->(∀ z∈xs,jd K (zT n) (p::S) H' z)->Q (.ref p) H'
theorem hG:af ["jar", "hands", "far", "good", "at", "found", "bad"] ["jar", "hands"] (aI qJ):=.of
set_option maxHeartbeats 2000000 in
theorem aBM (G:Fn K mg "_law_e_no_works" qJ ["jar", "hands"] f fd) (B:Bl mg) (j6:Fn K mg "_law_e_scoop" kQ ["jar", "many"] fS dS) (j5:ae P w K mg base ao 2 fS dS ["jar", "many"] (jM K)) (xb:Fn K mg "_law_e_able" qM ["jar", "hands"] fA dA) (w_:ae P w K mg base ao 3 fA dA ["jar", "hands"] (rO K)):ae P w K mg base ao 4 f fd ["jar", "hands"] (xR K):=by
 refine G.fn.oK hG λbg A outer s H vs Q E hr h=>?_
 ·obtain ⟨S,t,a,ns,N,n,rfl,fS,tS,J,hN,n1,n6,k⟩:=h
  have r3:aj 3 _:=hr
  have r2:aj 2 _:=hr.mono (by decide)
  refine gp.ex (aM (cO (i:=2) hG.nd rfl (Or.inl rfl) ⟨(aW j6 j5 r2 rfl (aA (pv 0) (aA (aY xT aH aH) aC)))⟩)
   (aM (cO (i:=3) hG.nd rfl (Or.inl rfl) ⟨(aW xb w_ r3 rfl (aA (pv 0) (aA (pv 1) aC)))⟩)
   (aM (cO (i:=4) hG.nd rfl (Or.inl rfl) ⟨(aW j6 j5 r2 rfl (aA (pv 0) (aA (aY eD (aL (kR (K:=K) rfl) rfl B.len eP (aA (pv 3) aC)) aH) aC)))⟩)
   (aM (cO (i:=5) hG.nd rfl (Or.inl rfl) (eJ (aG (cN bD) (aG sT (aG cZ (aG eY (aG cG (aG ⟨jX⟩ (aG (eJ bD) (aG ⟨(cR (wD (K:=K) rfl) rfl B.list pE (aA (pv 3) aC))⟩ (aG (cN (aG (cN (aG cZ bD aO)) bD eF)) (aG ⟨(aY (mV (K:=K) rfl) (pv 3) (cB (aA (pv 1) aC)))⟩ (aG ⟨(aY (mV (K:=K) rfl) (pv 3) (mQ (tY (K:=K) rfl) (pv 3) pS (pT aH)))⟩ (aG cG (aG (cN (aG eY bD aO)) bD eF) aO) jH) jH) eF) aFh) yD) UO) aO) aO) aO) aO) eF)))
   (aM ⟨(cK (kI Rh Ro Rp fF (pv 5) (aA (aY (mV (K:=K) rfl) (TM (K:=K) rfl (pv 3) (pR lP aH)) (pv 3)) aC)))⟩
   (aM (fX (aP mM (pv 1) aH (aU _)) (bE (cO (i:=5) hG.nd rfl (Or.inl rfl) (mW iB (mW iB ⟨(pv 5)⟩ (eJ (aG (cN (aG cZ (aG cZ bD aO) aO)) (aG (cN (aG ⟨(aY fP (pv 1) aH)⟩ (aG cZ bD aO) jH)) bD eF) eF))) (mW S_ (eJ (aG ⟨(TM (K:=K) rfl (pv 3) (pR lP aH))⟩ bD Ls)) ⟨(cR wN rfl B.int Ei (aA (gN mM (aL (kR (K:=K) rfl) rfl B.len eP (aA (pv 3) aC)) aH (aU _)) aC))⟩)))) cY)
   (aM (fX (aP mM (pv 1) aH (aU _)) (bE (cO (i:=5) hG.nd rfl (Or.inl rfl) (mW iB ⟨(pv 5)⟩ (eJ (aG (cN (aG cZ (aG cZ (aG ⟨(aY fP (pv 1) aH)⟩ bD jH) aO) aO)) (aG (cN (aG cZ (aG ⟨(aY fP (pv 1) aH)⟩ (aG cZ bD aO) jH) aO)) bD eF) eF))))) cY)
   (aM (mX PassesOwn.never rfl (eJ (aG ⟨(pR lP aH)⟩ (aG ⟨(pv 1)⟩ (aG ⟨(aY eD (pv 1) (pv 2))⟩ (aG ⟨(aY fP (pR lP aH) (pv 2))⟩ (aG eY (aG eY (aG sT (aG cG (aG (cN (aG cZ bD aO)) (aG (eJ (aG cZ bD aO)) bD yD) eF) aO) aO) aO) aO) jH) jH) yE) Lh)) (aV (i:=6) hG.nd rfl (Or.inl rfl)) (bE ⟨(cK (kI Rh Ro Rp fF (pv 5) (aA (aY (mV (K:=K) rfl) (aY (mV (K:=K) rfl) (mQ (tY (K:=K) rfl) (pv 3) pS (pT (pv 4))) (cB (aA (pv 6) aC))) (mQ (tY (K:=K) rfl) (pv 3) (pT (pv 4)) pS)) aC)))⟩) (λ_=>rfl))
   (bE (gO ⟨(pv 5)⟩)))))))))) ?_
  refine gM ⟨_,rfl,10,20,rfl,rfl,⟨by decide,by decide,by decide⟩,t,a,ns,N,_,rfl,J,by omega,by decide,by decide,λse H1 f0 _ b1 J1=>?_⟩
  refine gM ⟨_,rfl,_,rfl,t,a,ns,_,n,rfl,J1,by omega,n1,n6,λl p H2 mj b2 J2 ot=>?_⟩
  obtain ⟨l0,lb,lp⟩:=bA mj
  have l6:=aHq n6 mj
  refine gM ⟨_,rfl,_,rfl,p,_,rfl,.inr ot,_,1,rfl,rfl,t,a,ns,_,_,rfl,J2,by omega,by omega,Xp (show (((l.map V.int).length:Int)+1).natAbs<=7 by rw [Qd]; omega) (by decide +kernel),λRQ H3 a0 aN b3 J3=>?_⟩
  obtain ⟨m,rfl⟩:∃ m:Nat,RQ=m:=⟨RQ.toNat,by omega⟩
  obtain ⟨NG,x!⟩:=J2.lst
  have hp:=b3.ah x! ot
  have KY:ba t H H3:=(b1.trans b2).trans b3
  obtain ⟨WS,CP⟩:=J3.lst
  have fx:Fx S H3:=λb hb=>by
   by_cases c:b=t
   ·rw [c]; exact ⟨_,CP⟩
   ·obtain ⟨ys,hy⟩:=fS b hb; exact ⟨ys,KY _ _ c hy⟩
  have dg:∀ {T:List Addr} {H4:Hp},aD H3 H4->Fx T H4->Den K (Vw T H4) (.tuple (l.map .int)) (.ref p):=λs f=>bC.mpr ⟨p,_,rfl,f.ah (s.ah hp),cI.mpr rfl⟩
  obtain ⟨x0,r0,rfl⟩:∃ x r,l=x::r:=by
   cases l with
   | nil=>exact absurd rfl l0
   | cons x r=>exact ⟨x,r,rfl⟩
  have hn:D_ n (.int n):=λi e=>by injection e with e; omega
  have GG:Den K (Vw S H3) (.tuple ((x0::r0).map .int)) (.ref p):=dg (aD.refl _) fx
  have lz:((x0::r0).map PyData.int).length<=6:=by rw [Qd]; exact l6
  generalize jt:x0::r0=l at *
  have Hr:x0∈l:=by rw [<- jt]; simp
  refine gM (tJ (K:=K) (R:=zT n) (n:=13) fx
   (aT (ED.dep (iU eL) rfl) (aT (ED.dep zR rfl) (aT (ED.dep dF rfl) (aT (ED.dep sL rfl) (aT (ED.dep vU rfl) (aT (ED.dep TL rfl) (aT (ED.dep (zS eL) rfl)
   (aT (ED.dep (aDe (kT rfl GG)) rfl) (aT (ED.dep (iU (cD (iU (cD dF eL)) eL)) rfl)
   (aT (ED.dep (vW (kT rfl GG) (iU (cD (jA rfl) eL)) (by simp; omega)) (zU (d:=.int n) (by simp) hn))
   (aT (ED.dep (vW (kT rfl GG) (SE (m:=1) (kT rfl GG) aF9) (by simp; omega)) (mF (l:=l++l.take 1) (by rw [Qw,List.map_take]) (U_ Hr (by rw [<- jt]; simp))))
   (aT (ED.dep vU rfl) (aT (ED.dep (iU (cD sL eL)) (zU (d:=.bool false) (by simp) (λi e=>by cases e))) mC))))))))))))) λfl xs H4 s4 DE hl hx=>?_)
  have I:=LI.begin (N:=13) fx s4 DE (Zt hl) hx
  have f0:H3 fl=none:=by
   cases z:H3 fl with
   | none=>rfl
   | some o=>rw [s4 _ _ z] at DE; cases DE
  generalize upd H4 fl (.lst xs)=H5 at I ⊢
  refine pP (SM f0 I (by omega) rfl (ED.dep (vW (SN (kT rfl (dg I.same I.fx)) TN) (kT rfl (dg I.same I.fx)) (by simp; omega)) (mF (l:=l.reverse++l) (by rw [Qw,Yz]) (U_ (List.mem_reverse.mpr Hr) Hr))) λH6 b6 I6=>?_)
  have I6:=I6.next (aD.refl _) (show 14<=14 by omega)
  have FI:∀ {T:List Addr} {H7:Hp},aD H3 H7->Fx T H7->Al H7 T (GP K (pQ 3) (FE (rU λi=>.int (-i)) (tC (.int 1)))) [some (.ref t),some (.int n),some (.int se),some (.ref p),some (.int m),some (.ref fl),none] (ED K T (.tuple (l.map .int).reverse)):=λs f=>SN (kT rfl (dg s f)) TN
  dsimp only
  refine iK (λak H'=>∃ fl,H3 fl=none/\ak = [some (.ref t),some (.int n),some (.int se),some (.ref p),some (.int m),some (.ref fl),none]/\LI K (zT n) S H3 fl 17 H') (λbO=>?_) ?_
  ·refine ⟨_,rfl,n,1,rfl,rfl,_,rfl,?_⟩
   by_cases h1:1 < n
   ·refine eG (decide_eq_true h1) ⟨_,rfl,Ly (m:=2) f0 I6 (Lz (aT (ED.dep (iU (cD dF (cD dF eL))) (mF (l:=[1,0]) rfl (by simp))) (aT (ED.dep (iU (cD (vV (jA rfl) dF) (cD dF eL))) (mF (l:=[n - 1,0]) rfl (by simp; omega))) mC))) (by omega) λp1 H7 HS s7 I7=>?_⟩
    refine Ly (m:=1) HS I7 (λH8 s8 f8 Q8 k8=>?_) (by omega) λp2 H8 X4 s8 I8=>?_
    ·dsimp only [xf]
     refine G_ f8 (Lz (R:=λd=>1 < l.length->zT n d) (n:=1) (aT (ED.dep (FI (I7.same.trans s8) f8) λh=>mF (l:=l.reverse) (by rw [Yz]) (aEP lp h)) mC)) λv H9 s9 ⟨q,ys,ev,hq,OA,hy⟩=>?_
     subst ev
     refine ⟨_,rfl,p,_,rfl,.inr ((I7.same.trans (s8.trans s9)).ah hp),_,1,rfl,rfl,.inr ⟨_,rfl,?_⟩⟩
     refine ⟨q,_,ys,rfl,rfl,hq,?_,?_,?_,λr hr=>?_⟩
     ·split <;> decide
     ·split <;> decide
     ·rw [Rf]; split <;> simp <;> omega
     ·refine k8 _ _ (s9.trans (aD.new hr)) ⟨r,_,rfl,aB,?_,λy oq=>?_⟩
      ·split <;> simp <;> omega
      ·by_cases h2:1 < l.length
       ·rw [decide_eq_true (by rw [Qd]; omega)] at oq
        obtain ⟨d,j0,hd2⟩:=hy y (by simpa using oq)
        exact ⟨d,(Vw.same (aD.new hr)).den _ _ j0,hd2 h2⟩
       ·rw [decide_eq_false (by rw [Qd]; omega)] at oq
        simp at oq
    ·exact bO _ _ ⟨p2,X4,rfl,I8⟩
   ·exact bJ (decide_eq_false h1) (bO _ _ ⟨fl,f0,rfl,I6.next (aD.refl _) (by omega)⟩)
  clear I6 FI
  rintro ak H7 ⟨fl,f0,rfl,I7⟩
  refine iK (λak H'=>∃ fl,H3 fl=none/\ak = [some (.ref t),some (.int n),some (.int se),some (.ref p),some (.int m),some (.ref fl),none]/\LI K (zT n) S H3 fl 19 H') (λbO=>?_) ?_
  ·refine ⟨_,rfl,n,2,rfl,rfl,_,rfl,?_⟩
   by_cases h1:2 < n
   ·exact eG (decide_eq_true h1) ⟨_,rfl,Ly (m:=2) f0 I7 (Lz (aT (ED.dep (iU (cD dF (cD dF (cD (vV (jA rfl) dF) eL)))) (mF (l:=[1,0,n - 1]) rfl (λh=>by have:=(Xa.mp h).1 0 (by simp); omega))) (aT (ED.dep (iU (cD dF (cD (vV (jA rfl) dF) (cD dF eL)))) (mF (l:=[0,n - 1,1]) rfl (λh=>by have:=(Xa.mp (Xa.mp h).2).1 1 (by simp); omega))) mC))) (by omega) λp1 H8 HS s8 I8=>bO _ _ ⟨p1,HS,rfl,I8⟩⟩
   ·exact bJ (decide_eq_false h1) (bO _ _ ⟨fl,f0,rfl,I7.next (aD.refl _) (by omega)⟩)
  clear I7 H7
  rintro ak H7 ⟨fl,f0,rfl,I7⟩
  refine pP (qY ?_)
  refine tJ (K:=K) (R:=D_ n) (n:=10) I7.fx (aT (ED.dep (Ee (g:=λi=>-i) dF) (λi e=>by injection e with e; omega)) (aT (ED.dep (jA rfl) hn) (aT (ED.dep (vV (jA rfl) (jA rfl)) (λi e=>by injection e with e; omega)) (aT (ED.dep (vV (Ee (g:=λi=>-i) dF) (jA rfl)) (λi e=>by injection e with e; omega))
   (aT (ED.dep sL (λi e=>by cases e)) (aT (ED.dep sL (λi e=>by cases e)) (aT (ED.dep zR (λi e=>by cases e)) (aT (ED.dep vU (λi e=>by cases e)) (aT (ED.dep (iU (cD dF eL)) (λi e=>by cases e)) (aT (ED.dep (zS (cD dF eL)) (λi e=>by cases e)) mC)))))))))) λlp ys H8 s8 fv OA hy=>?_
  have I8:=I7.next (s8.trans (aD.new (o:=.lst ys) fv)) (Qh _)
  have nl:lp≠fl:=λz=>by
   obtain ⟨Fy,h1,_⟩:=I7.has
   rw [z,s8 _ _ h1] at fv; cases fv
  have OE:∀ y∈ys,jd K (D_ n) (fl::S) (upd H8 lp (.lst ys)) y:=λy h=>(hy y h).keep (Vw.same (aD.new fv))
  have e8:upd H8 lp (.lst ys) lp=some (.lst ys):=aB
  generalize upd H8 lp (.lst ys)=H9 at I8 OE e8 ⊢
  refine ⟨lp,rfl,⟨_,au.of e8⟩,jB (K:=K) (a:=lp) (xs:=ys) (λi σ H'=>∃ v6,σ = [some (.ref t),some (.int n),some (.int se),some (.ref p),some (.int m),some (.ref fl),v6]/\LI K (zT n) S H3 fl (19+i) H'/\H' lp=some (.lst ys)/\∀ y∈ys,jd K (D_ n) (fl::S) H' y) ⟨none,rfl,I8,e8,OE⟩ (λi σ H' _ ⟨_,_,_,h,_⟩=>au.of h) ?_ ?_⟩
  ·rintro i x σ H' hx ⟨v6,rfl,I',e',oq⟩
   have hi:i < ys.length:=(Qa.mp hx).1
   obtain ⟨d,hd,gx⟩:=oq x (Qe hx)
   dsimp only [bN]
   have Q7:=dg I'.same I'.fx
   refine SM f0 I' (by omega) rfl (ED.dep (vW (vW (SE (m:=m) (kT rfl Q7) (rF (R:=λ_ v=>v=.int m) rfl rfl)) (iU (cD (kT rfl hd) eL)) (by simp; omega)) (aGa (m:=m) (kT rfl Q7) (rF (R:=λ_ v=>v=.int m) rfl rfl)) (by simp; omega)) (zU (d:=d) (by simp) gx)) λL6 Af By=>?_
   exact ⟨_,rfl,By,Af _ _ nl e',λy h=>(oq y h).keep (ba.vw Af (by simp))⟩
  ·rintro σ H' ⟨v6,rfl,I',_,_⟩
   obtain ⟨Fy,h1,h2,h3⟩:=I'.has
   have nt:fl≠t:=λz=>by rw [z,CP] at f0; cases f0
   refine ⟨_,rfl,k fl Fy H' ?_ (KY.trans (ba.of I'.same)) ((J3.same I'.same).more (by omega)) h1 (by omega) h3⟩
   cases z:H fl with
   | none=>rfl
   | some o=>rw [KY _ _ nt z] at f0; cases f0
end Ab
namespace L2
open PySem PySem.Spec PyProof.Rows
def K8 (K:Rb) (H:Hp) (v u:V):Prop:=(∃ d,Den K H d v/\Den K H d u/\eO d=true/\SeqAt.shaped d=true)∨∃ (a b:Addr) (k1 k2:List (Key×V)),v=.ref a/\u=.ref b/\Rd H a (.dK k1)/\Rd H b (.dK k2)/\qo K H k1 k2
theorem aER {σ:St} {u:V} {x y:Value} (I:Inv X aa σ H s) (hu:X.A.units+100 < cLine) (h:K8 X.K H v u) (rx:bQ v x) (ry:bQ u y):SeqAt.EqAt X.A.in1 s x y true:=by
 rcases h with ⟨d,d1,d2,nd,sh⟩ | ⟨a1,b1,k1,k2,rfl,rfl,e1,e2,S⟩
 ·obtain ⟨as,ra⟩:=Den.reads I d _ _ nd d1 rx
  obtain ⟨bs,rb⟩:=Den.reads I d _ _ nd d2 ry
  have q1:=Mv (A:=X.A) ra rb sh sh (by show X.A.units+1+64 < cLine; omega)
  rw [Ug d (SeqAt.canLay_of_shaped sh)] at q1
  exact q1
 ·cases rx
  cases ry
  obtain ⟨z1,j0,v1,r1,d1⟩:=jC I.ax e1
  obtain ⟨z2,hd2,v2,r2,d2⟩:=jC I.ax e2
  have hl:v1.length=v2.length:=by rw [<- r1.length,<- r2.length,S.len]
  by_cases c:a1=b1
  ·rw [c]; exact SeqAt.EqAt.same _
  ·refine SeqAt.EqAt.of_refs c λprog w E Q hq=>?_
   refine PySem.W.keq_eq (knd:=bF prog w) (A:=X.A.in1) j0 hd2 (uQ d1 (TC r1 S.int)) (uQ d2 (TC r2 S.MM)) (by show X.A.units+1 < cLine; omega) (λ_=>xC I r2 (by show X.A.units+1+1+64 < cLine; omega) r1 S.val) ?_
   rw [hl,beq_self_eq_true]; exact hq
def U' (K:Rb):R2:=λx y H Q=>∃ (a b:Addr) (xs ys:List V),x=.ref a/\y=.ref b/\au K H a xs/\au K H b ys/\xs.length=ys.length/\(∀ (i:Nat) v u,xs[i]?=some v->ys[i]?=some u->K8 K H v u)/\Q (.bl false) H
theorem aBN (hu:X.A.units+100 < cLine):fm X (compareOp .NotEq) (U' X.K):=by
 intro aa s σ H x y v u Q I rx ry h
 obtain ⟨a,b,xs,ys,rfl,rfl,t1,t2,hl,hs,q⟩:=h
 cases rx
 cases ry
 obtain ⟨ag,rv,p1,_⟩:=I.list t1
 obtain ⟨j7,AJ,p2,_⟩:=I.list t2
 have el:ag.length=j7.length:=by rw [<- rv.length,<- AJ.length,hl]
 have he:∀ j (h1:j < ag.toArray.size) (h2:j < j7.toArray.size),SeqAt.EqAt X.A.in1 s ag.toArray[j] j7.toArray[j] ((λ_=>true) j):=λj h1 h2=>by
  have r_:j < ag.length:=by simpa using h1
  have mq:j < j7.length:=by simpa using h2
  obtain ⟨v,hv⟩:∃ v,xs[j]?=some v:=⟨_,Qb (by rw [rv.length]; exact r_)⟩
  obtain ⟨u,OP⟩:∃ u,ys[j]?=some u:=⟨_,Qb (by rw [AJ.length]; exact mq)⟩
  obtain ⟨x,hx,r1⟩:=rv.get hv
  obtain ⟨y,hy,r2⟩:=AJ.get OP
  have e1:ag.toArray[j]=x:=by
   rw [Qb r_] at hx
   simpa using hx
  have e2:j7.toArray[j]=y:=by
   rw [Qb mq] at hy
   simpa using hy
  rw [e1,e2]
  exact aER I hu (hs j v u hv OP) r1 r2
 have:=SeqAt.RcNeAt.lists (e:=λ_=>true) p1.isList p2.isList (by simpa using el) (by omega) he X.prog X.w (E:=X.xe) (Q:=EP X aa σ Q)
 refine this ?_
 have e:(!(List.range ag.toArray.size).all (λ_=>true))=false:=by simp
 rw [e]
 exact ⟨.bl false,H,I,rfl,q⟩
end L2
namespace Ab
open PySem L2
theorem aES (hD:D.nums.Nodup) (hh:D.hs.length=D.nums.length) (hw:D.ws.length=D.nums.length):∀ {wd:Wd} {v u:V},wd≠.levels->jN K D H0 H wd v->jN K D H1 H wd u->K8 K H v u
 | .de,v,u,_,⟨p,ts,e1,_,h1,l1,g1⟩,⟨q,l_,e2,_,h2,l2,g2⟩=>.inr ⟨p,q,_,_,e1,e2,.inl h1,.inl h2,TV hD l1 l2 hw g1 g2⟩
 | .i7,v,u,_,⟨p,e1,_,h1⟩,⟨q,e2,_,h2⟩=>.inr ⟨p,q,_,_,e1,e2,.inl h1,.inl h2,aF2 hD hh⟩
 | .f9,v,u,_,⟨p,e1,h1⟩,⟨q,e2,h2⟩=>.inl ⟨.tuple ((bS D.n D.hs).map .int),bC.mpr ⟨p,_,e1,h1,cI.mpr rfl⟩,bC.mpr ⟨q,_,e2,h2,cI.mpr rfl⟩,iH _,iG _⟩
 | .levels,_,_,n,_,_=>absurd rfl n
 | .moved,v,u,_,⟨p,e1,h1⟩,⟨q,e2,h2⟩=>.inl ⟨.tuple ([D.ml,D.ma].map .int),bC.mpr ⟨p,_,e1,h1,cI.mpr rfl⟩,bC.mpr ⟨q,_,e2,h2,cI.mpr rfl⟩,iH _,iG _⟩
def AQ:List Wd:=[.de,.i7,.f9,.moved]
def Lx:Sp:=λvs H Q _=>∃ (fp:Addr) (kvs:List (Key×V)),vs = [.ref fp]/\H fp=some (.dK kvs)/\(∀ wd:Wd,∃ v,bW kvs (.inr wd.str)=some v)/\∀ l xs H',aD H H'->H l=none->H' l=some (.lst xs)->(xs.length=4/\∀ (i:Nat) wd x,AQ[i]?=some wd->xs[i]?=some x->bW kvs (.inr wd.str)=some x)->Q (.ref l) H'
theorem aHr:af ["found"] ["found"] (aI Eh):=.of
theorem aGb (G:Fn K mg "_law_e_kept" Eh ["found"] f fd) (B:Bl mg):ae P w K mg base ao 1 f fd ["found"] Lx:=by
 refine G.fn.oK aHr λbg A outer s H vs Q E hr h=>?_
 ·obtain ⟨fp,kvs,rfl,hf,hv,k⟩:=h
  refine ⟨_,(aJ (aR (gD (own:=["word"]) (fr:=[0]) (bo:=["found"]) (bK (aI Eh) ["found"] rfl rfl (by decide +kernel)) rfl (hU (gT (aA aK (aA aK (aA aK (aA aK aC))))))
    (λ_ _ _ _=>(aV (i:=0) (show (["word", "found"]:List Str).Nodup by decide +kernel) rfl (Or.inl rfl))) (λ_ _ _ _=>eM)
    (λ_ _ _ _=>(aQ (bU hr) (pv 1) (pv 0) (λ_ _=>rfl)))))),?_⟩
  refine ⟨NP _ _ _ _,λlw wc=>⟨lw,rfl,⟨_,au.of aB⟩,?_⟩⟩
  have s1:=aD.new (o:=.lst [.str "works",.str "deal",.str "loads",.str "moved"]) wc
  have e1:upd H lw (.lst [.str "works",.str "deal",.str "loads",.str "moved"]) lw=some (.lst (AQ.map λwd=>V.str wd.str)):=aB
  generalize upd H lw (.lst [.str "works",.str "deal",.str "loads",.str "moved"])=H1 at s1 e1 ⊢
  refine nN (K:=K) (a:=lw) (xs:=AQ.map λwd=>V.str wd.str) (λσ=>∃ u,σ = [u,some (.ref fp)]) (λi ys H'=>H'=H1/\ys.length=i/\∀ (j:Nat) wd x,AQ[j]?=some wd->ys[j]?=some x->bW kvs (.inr wd.str)=some x) (by rw [Rf]; decide) ⟨none,rfl⟩ ⟨rfl,rfl,λj wd x _ h=>by simp at h⟩ (λi ys H' h=>Zt h.2.1) (λi ys H' h=>by rw [h.1]; exact au.of e1) ?_ ?_
  ·rintro i ys σ x H' hx ⟨u,rfl⟩ ⟨rfl,hl,hy⟩ hz
   rw [Qi] at hx
   obtain ⟨wd,zl,rfl⟩:=Qs.mp hx
   obtain ⟨v,ev⟩:=hv wd
   refine cQ ?_
   have dg:kF H' fp (V.str wd.str) (some v):=by rw [<- ev]; exact kF.k (k:=.inr wd.str) (s1 _ _ hf)
   refine ⟨_,rfl,_,rfl,fp,v,rfl,dg,hz,⟨_,rfl⟩,rfl,by rw [Qg,hl]; rfl,λj Fz x hj ay=>?_⟩
   rcases Nat.lt_or_ge j ys.length with c | c
   ·rw [Qn c] at ay
    exact hy j Fz x hj ay
   ·rw [Qr c] at ay
    have ej:j - ys.length=0:=by
     have:=(Qa.mp ay).1
     simp at this
     omega
    rw [ej] at ay
    have:j=i:=by omega
    subst this
    rw [zl] at hj
    cases hj
    cases (show v=x by simpa using ay)
    exact ev
  ·rintro ys H' ⟨rfl,hl,hy⟩ l jt
   have Cz:H l=none:=by
    cases z:H l with
    | none=>rfl
    | some o=>rw [s1 _ _ z] at jt; cases jt
   exact k l ys _ (s1.trans (aD.new jt)) Cz aB ⟨by rw [hl]; rfl,hy⟩
theorem zO.same (s:aD H H') (h:zO K H dp D j):zO K H' dp D j:=by
 rcases h with ⟨v,d,h1,h2,h3⟩ | ⟨v,d,h1,h2,h3⟩ | ⟨h1,h2⟩ | ⟨h1,h2⟩
 ·exact .inl ⟨v,d,s.ah h1,s.den _ _ h2,h3⟩
 ·exact .inr (.inl ⟨v,d,s.ah h1,s.den _ _ h2,h3⟩)
 ·exact .inr (.inr (.inl ⟨s.ah h1,h2⟩))
 ·exact .inr (.inr (.inr ⟨s.ah h1,h2⟩))
def wK (K:Rb) (D:DD) (S:List Addr) (H:Hp) (x:V):Prop:=∃ r dp j t,x=.ref r/\aq K (Vw S H) r [.ref dp,.str t]/\j < 11/\sK[j]?=some t/\zO K (Vw S H) dp D j
theorem wK.keep {S S':List Addr} {x:V} (s:aD (Vw S H) (Vw S' H')) (h:wK K D S H x):wK K D S' H' x:=let ⟨r,dp,j,t,h1,h2,h3,h4,h5⟩:=h; ⟨r,dp,j,t,h1,s.ah h2,h3,h4,h5.same s⟩
section
variable {S:List Addr} {σ:St} {tu:TE} {w:Str} {a rl:Addr} {N N' M M':Nat}
def EH (K:Rb) (D:DD) (S:List Addr) (j:Nat) (H:Hp) (v:V):Prop:=∃ dp,v=.ref dp/\zO K (Vw S H) dp D j
theorem aHs (h:Al H0 S te σ (jd K (λd=>cA D.n d=false) S)):Al H0 S (Ai (iL (tC (.str "put")) (iL te oF))) σ (EH K D S 0):=λH s f Q k=>h H s f _ λv H1 s1 ⟨d,hd,hn⟩=>⟨i5 _ _,λp hp=>k _ _ (s1.trans (aD.new hp)) ⟨p,rfl,.inl ⟨v,d,aq.of (Vw.at (f.same s1) hp),(Vw.same (aD.new hp)).den _ _ hd,.inl ⟨hn,rfl⟩⟩⟩⟩
theorem aGc (h:Al H0 S te σ (jd K (λd=>∀ num,d=.int num->num∉D.nums) S)):Al H0 S (Ai (iL (tC (.str "take")) (iL te oF))) σ (EH K D S 9):=λH s f Q k=>h H s f _ λv H1 s1 ⟨d,hd,hn⟩=>⟨i5 _ _,λp hp=>k _ _ (s1.trans (aD.new hp)) ⟨p,rfl,.inr (.inl ⟨v,d,aq.of (Vw.at (f.same s1) hp),(Vw.same (aD.new hp)).den _ _ hd,hn,rfl⟩)⟩⟩
theorem aGd (h:D.n=6):Al H0 S (Ai (iL (tC (.str "come")) oF)) σ (EH K D S 10):=λH s f Q k=>⟨js 1 (by decide) |> Jh,λp hp=>k _ _ (aD.new hp) ⟨p,rfl,.inr (.inr (.inl ⟨aq.of (Vw.at f hp),h,rfl⟩))⟩⟩
theorem aGe (h:D.n=1∨∃ l∈D.ws,D.n - 1∈l):Al H0 S (Ai (iL (tC (.str "go")) oF)) σ (EH K D S 3):=λH s f Q k=>⟨js 1 (by decide) |> Jh,λp hp=>k _ _ (aD.new hp) ⟨p,rfl,.inr (.inr (.inr ⟨aq.of (Vw.at f hp),h,rfl⟩))⟩⟩
theorem tK (h:Al H0 S tu σ (EH K D S j)) (hj:j < 11) (ht:sK[j]?=some w):Al H0 S (Ai (iL tu (iL (tC (.str w)) oF))) σ (wK K D S):=λH s f Q k=>h H s f _ λv H1 s1 ⟨dp,e,hb⟩=>⟨i5 _ _,λr hr=>k _ _ (s1.trans (aD.new hr)) ⟨r,dp,j,w,rfl,by rw [<- e]; exact aq.of (Vw.at (f.same s1) hr),hj,ht,hb.same (Vw.same (aD.new hr))⟩⟩
structure RI (K:Rb) (D:DD) (t a:Addr) (ns:List Int) (rl:Addr) (H0:Hp) (N M:Nat) (H:Hp):Prop where
 but:ba t H0 H
 c7:c9 K H t a ns N
 has:∃ xs,H rl=some (.lst xs)/\xs.length<=M/\∀ x∈xs,wK K D [rl,t] H x
theorem RI.fx (I:RI K D t a ns rl H0 N M H):Fx [rl,t] H:=λb hb=>by
 rcases Ql.mp hb with rfl | hb
 ·obtain ⟨xs,h,_⟩:=I.has; exact ⟨_,h⟩
 ·rw [Qx.mp hb]; exact I.c7.lst
theorem RI.same (I:RI K D t a ns rl H0 N M H) (s:aD H H'):RI K D t a ns rl H0 N M H':=⟨I.but.trans (ba.of s),I.c7.same s,let ⟨xs,h1,h2,h3⟩:=I.has; ⟨xs,s _ _ h1,h2,λx hx=>(h3 x hx).keep (Vw.same s)⟩⟩
theorem RI.up (I:RI K D t a ns rl H0 N M H) (h:N<=N'/\M<=M':=by omega):RI K D t a ns rl H0 N' M' H:=⟨I.but,I.c7.more h.1,let ⟨xs,h1,h2,h3⟩:=I.has; ⟨xs,h1,Ja h2 h.2,h3⟩⟩
theorem RI.BC (I:RI K D t a ns rl H0 N M H) (n:rl≠t) (b:ba t H H') (J:c9 K H' t a ns N'):RI K D t a ns rl H0 N' M H':=⟨I.but.trans b,J,let ⟨xs,h1,h2,h3⟩:=I.has; ⟨xs,b _ _ n h1,h2,λx hx=>(h3 x hx).keep (ba.vw b (by simp))⟩⟩
theorem aBP {o:HO} (J0:c9 K H0 t a ns M) (J:c9 K H t a ns N) (h0:H0 rl=none) (n:rl≠t):c9 K (upd H rl o) t a ns N:=by
 obtain ⟨⟨p,q,h1,h2,h3⟩,g⟩:=J
 refine ⟨⟨p,q,h1,h2,(aF n.symm).trans h3⟩,?_⟩
 by_cases c:a=rl
 ·subst c
  rcases J0.2 with (z | ⟨_,z⟩) | z
  ·rw [h0] at z; cases z
  ·rw [h0] at z; cases z
  ·exact .inr z
 ·rcases g with (z | ⟨o,z⟩) | z
  ·exact .inl (.inl ((aF c).trans z))
  ·exact .inl (.inr ⟨o,(aF c).trans z⟩)
  ·exact .inr z
theorem TJ {x:V} {R:V->Hp->Prop} (J0:c9 K H0 t a ns M') (h0:H0 rl=none) (n:rl≠t) (I:RI K D t a ns rl H0 N M H) (hM:M<=1000) (hx:wK K D [rl,t] H x) (k:∀ H2,ba rl H H2->RI K D t a ns rl H0 N (M+1) H2->R .br H2):sR (.ref rl) [x] H R:=by
 obtain ⟨xs,h1,h2,h3⟩:=I.has
 have b:ba rl H (upd H rl (.lst (xs++[x]))):=ba.at
 refine ⟨rl,xs,x,rfl,rfl,h1,by rw [Rf]; omega,k _ b ⟨λc u hc he=>?_,aBP J0 I.c7 h0 n,_,aB,by rw [Qg]; show _+1<=_; omega,λy hy=>?_⟩⟩
 ·exact b c u (λz=>by rw [z,h0] at he; cases he) (I.but c u hc he)
 ·have kp:aD (Vw [rl,t] H) (Vw [rl,t] (upd H rl (.lst (xs++[x])))):=ba.vw b (by simp)
  rcases Jg.mp hy with hy | hy
  ·exact (h3 y hy).keep kp
  ·rw [Qx.mp hy]; exact hx.keep kp
theorem zV {q:Nat} {Dn:Ends} (J0:c9 K H0 t a ns M') (h0:H0 rl=none) (n:rl≠t) (I:RI K D t a ns rl H0 N M H) (hM:M<=1000) (hq:σ[q]?=some (some (.ref rl))) (he:Al H [rl,t] te σ (wK K D [rl,t])) (k:∀ H2,ba rl H H2->RI K D t a ns rl H0 N (M+1) H2->Dn.nx σ H2):Lc (FG K "list" sR (pQ q) (iL te oF)) Dn σ H:=by
 obtain ⟨Fw,e0,_⟩:=I.has
 exact ⟨_,hq,.inl ⟨rfl,_,au.of e0⟩,G_ I.fx he λz H1 s1 hz=>TJ J0 h0 n (I.same s1) hM hz λH2 b2 I2=>k H2 ((ba.of s1).trans b2) I2⟩
end
def rW (K:Rb) (C:Addr):Sp:=λvs H Q _=>∃ (t a:Addr) (ns:List Int) (N:Nat) (Pt Pl x sp:Addr) (D:DD) (S:SD),vs = [.ref t,.ref sp]/\Wn K H C t a ns N Pt Pl x sp D S/\N<=500000/\S.bc<=100/\∀ rl xs H',H rl=none->ba t H H'->c9 K H' t a ns (N+40)->H' rl=some (.lst xs)->xs.length<=400->(∀ x∈xs,wK K D [rl,t] H' x)->Q (.ref rl) H'
theorem iV:af ["jar", "state", "rows", "some", "far", "taken", "number", "last"] ["jar", "state"] (aI lD):=.of
set_option maxHeartbeats 2000000 in
theorem aBQ (G:Fn K mg "_law_e_refused" lD ["jar", "state"] f fd) (B:Bl mg) (j6:Fn K mg "_law_e_scoop" kQ ["jar", "many"] fS dS) (j5:ae P w K mg base ao 2 fS dS ["jar", "many"] (jM K)) (xb:Fn K mg "_law_e_able" qM ["jar", "hands"] fA dA) (w_:ae P w K mg base ao 3 fA dA ["jar", "hands"] (rO K)) (GNw:Fn K mg "_law_e_no_works" qJ ["jar", "hands"] fW dW) (ONw:ae P w K mg base ao 4 fW dW ["jar", "hands"] (xR K)):ae P w K mg base ao 5 f fd ["jar", "state"] (rW K C):=by
 refine G.fn.oK iV λbg A outer s H vs Q E hr h=>?_
 ·obtain ⟨t,a,ns,N,Pt,Pl,x,sp,D,S,rfl,W,hN,aag,k⟩:=h
  have r4:aj 4 _:=hr
  have r3:aj 3 _:=hr.mono (by decide)
  have r2:aj 2 _:=hr.mono (by decide)
  have hu:=bU hr
  refine gp.ex (aM (cO (i:=2) iV.nd rfl (Or.inl rfl) (eJ bD))
   (aM (oE PassesOwn.never rfl (hU (aW GNw ONw r4 rfl (aA (pv 0) (aA (aQ (bU hr) (pv 1) aK (λ_ _=>rfl)) aC)))) (aV (i:=3) iV.nd rfl (Or.inl rfl)) (bE ⟨(cK (kI Rh Ro Rp fF (pv 2) (aA (cB (aA (cB (aA aK (aA (pv 3) aC))) (aA aK aC))) aC)))⟩) (λ_=>rfl))
   (aM (fX (aP dX (aL lA rfl B.len eP (aA (aQ (bU hr) (pv 1) aK (λ_ _=>rfl)) aC)) aH (aU _)) (bE ⟨(cK (kI Rh Ro Rp fF (pv 2) (aA (cB (aA (cB (aA aK (aA (aW xb w_ r3 rfl (aA (pv 0) (aA (aQ (bU hr) (pv 1) aK (λ_ _=>rfl)) aC))) aC))) (aA aK aC))) aC)))⟩) cY)
   (aM (cO (i:=4) iV.nd rfl (Or.inl rfl) ⟨(aW j6 j5 r2 rfl (aA (pv 0) (aA (aY xT aH aH) aC)))⟩)
   (aM ⟨(lR (i:=5) (own:=["number"]) (fr:=[1]) (bo:=["state"]) (bK (aI lD) ["jar", "state", "rows", "some", "far", "taken", "number", "last"] rfl rfl (by decide +kernel)) rfl iV.nd rfl rfl rfl (dZ rfl B.range (aA (aQ (bU hr) (pv 1) aK (λ_ _=>rfl)) aC)) (λ_ _ _ _=>(aV (i:=0) (show (["number", "state"]:List Str).Nodup by decide +kernel) rfl (Or.inl rfl))) (λ_ _ _ _=>xZ (rA (nQ (bU hr) (pv 0) (aQ (bU hr) (pv 1) aK (λ_ _=>rfl))) (by with_unfolding_all rfl))) (λ_ _ _ _=>(pv 0)))⟩
   (aM (mX PassesOwn.never rfl (mW iB ⟨(pv 5)⟩ (eJ (aG ⟨(aQ (bU hr) (pv 1) aK (λ_ _=>rfl))⟩ (aG ⟨(aY eD (aQ (bU hr) (pv 1) aK (λ_ _=>rfl)) (pv 4))⟩ (aG ⟨(pR lP aH)⟩ (aG ⟨(aY fP (pR lP aH) (pv 4))⟩ (aG eY (aG eY (aG sT (aG cG (aG (cN (aG cZ bD aO)) (aG (eJ (aG cZ bD aO)) bD yD) eF) aO) aO) aO) aO) jH) Lh) jH) Ls))) (aV (i:=6) iV.nd rfl (Or.inl rfl)) (bE ⟨(cK (kI Rh Ro Rp fF (pv 2) (aA (cB (aA (cB (aA aK (aA (pv 6) aC))) (aA aK aC))) aC)))⟩) (λ_=>rfl))
   (aM (cO (i:=7) iV.nd rfl (Or.inr rfl) ⟨(aY fP (aQ (bU hr) (pv 1) aK (λ_ _=>rfl)) aH)⟩)
   (aM (fX (aP dX (aQ (bU hr) (pv 1) aK (λ_ _=>rfl)) aH (aU _)) (bE ⟨(cK (kI Rh Ro Rp fF (pv 2) (aA (cB (aA (cB (aA aK aC)) (aA aK aC))) aC)))⟩) cY)
   (aM (fX (PW.pt (fZ (aP dX (pv 7) aH (aU _)) (eV (bL (aL (kZ rfl) rfl B.any xH (aA (mY (own:=["number"]) (fr:=[7,1]) (bo:=["last", "state"]) (bK (aI lD) ["jar", "state", "rows", "some", "far", "taken", "number", "last"] rfl rfl (by decide +kernel)) rfl (aQ (bU hr) (pv 1) aK (λ_ _=>rfl)) (λ_ _ _ _=>(aV (i:=0) (show (["number", "last", "state"]:List Str).Nodup by decide +kernel) rfl (Or.inl rfl))) (λ_ _ _ _=>eM) (λ_ _ _ _=>(gN (gY (K:=K) rfl) (pv 1) (aQ (bU hr) (aQ (bU hr) (pv 2) aK (λ_ _=>rfl)) (pv 0) (λ_ _=>rfl)) (by with_unfolding_all rfl)))) aC)))))) (bE ⟨(cK (kI Rh Ro Rp fF (pv 2) (aA (cB (aA (cB (aA aK aC)) (aA aK aC))) aC)))⟩) cY)
   (bE (gO ⟨(pv 2)⟩))))))))))) ?_
  obtain ⟨i9,n1,n6⟩:=W.i9
  obtain ⟨eN,_,eU,eW⟩:=W.p.lk
  have hM:=W.p.sm
  have dk:S.nums.Nodup:=Jd.mpr (hM.up.imp λh=>Jz h)
  obtain ⟨Fw,e0⟩:=W.c7.lst
  refine gM ⟨by rw [Rf]; simp,λrl uo=>?_⟩
  have nt:rl≠t:=W.c7.ne uo
  have J0:=W.c7
  have I:RI K D t a ns rl H N 0 (upd H rl (.lst [])):=⟨ba.of (aD.new uo),W.c7.same (aD.new uo),[],aB,Qh _,λx hx=>absurd hx (by simp)⟩
  generalize upd H rl (.lst [])=H1 at I ⊢
  have st:∀ {N M:Nat} {H2:Hp},RI K D t a ns rl H N M H2->gu K H2 sp S:=λI=>W.p.sh.but e0 I.but
  have kd:∀ {N M:Nat} {H2 H3:Hp} {key:Str} {v:V},RI K D t a ns rl H N M H2->aD H2 H3->bW S.kv (.inr key)=some v->kF H3 sp (.str key) (some v):=λI s e=>((st I).same s).dr (k:=.inr _) e
  refine pP (qY ⟨_,rfl,_,rfl,sp,_,rfl,kd I (aD.refl _) (cS S),[rl,t],t,a,ns,N,S.n,rfl,I.fx,by simp,I.c7,by omega,n1,n6,λp xs H2 hp b2 J2 ep hl hx=>?_⟩)
  have I2:=(I.BC nt b2 J2)
  have YA:p≠rl:=λz=>by
   obtain ⟨ys,h1,_⟩:=I.has
   rw [z,h1] at hp; cases hp
  refine ⟨p,rfl,⟨_,au.of ep⟩,jB (K:=K) (a:=p) (xs:=xs) (λi σ H'=>∃ v3,σ = [some (.ref t),some (.ref sp),some (.ref rl),v3,none,none,none,none]/\RI K D t a ns rl H (N+10) i H'/\H' p=some (.lst xs)/\∀ z∈xs,jd K (zT S.n) [p,rl,t] H' z) ⟨none,rfl,I2,ep,hx⟩ (λi σ H' _ ⟨_,_,_,h,_⟩=>au.of h) ?_ ?_⟩
  ·rintro i z σ H' hz ⟨v3,rfl,I',e',qy⟩
   have hi:i < xs.length:=(Qa.mp hz).1
   obtain ⟨d,hd,gx⟩:=qy z (Qe hz)
   dsimp only [bN]
   refine zV J0 uo nt I' (by omega) rfl (tK (aHs (rF (R:=jd K (λd=>cA D.n d=false) [rl,t]) rfl ⟨d,Vw.less.den _ _ hd,by rw [eN]; exact gx⟩)) (by decide) rfl) λL6 Af By=>?_
   exact ⟨_,rfl,By,Af _ _ YA e',λy h=>(qy y h).keep (ba.vw Af (by simp))⟩
  clear I I2 ep hx
  rintro σ H3 ⟨v3,rfl,I3,_,_⟩
  replace I3:=I3.up (N':=N+10) (M':=100)
  dsimp only
  refine iK (λak H'=>ak = [some (.ref t),some (.ref sp),some (.ref rl),v3,none,none,none,none]/\RI K D t a ns rl H (N+18) 101 H') (λbO=>?_) ?_
  ·refine ⟨_,rfl,sp,_,rfl,kd I3 (aD.refl _) (cX S),S.ap,_,rfl,(st I3).ai,rfl,_,rfl,?_⟩
   have lh:(a_ S.nums S.ts).length=S.nums.length:=gS W.p.sh.tl
   by_cases lu:S.nums.length=12
   ·obtain ⟨ys,ey,_⟩:=I3.has
    refine eG (decide_eq_true (by rw [lh,lu]; rfl)) ⟨_,rfl,.inl ⟨rfl,_,au.of ey⟩,?_⟩
    refine ⟨_,rfl,_,rfl,sp,_,rfl,kd I3 (aD.refl _) (cS S),t,a,ns,_,S.n,rfl,I3.c7,by omega,n1,n6,λl q H5 mj b5 J5 hq=>?_⟩
    have I5:=I3.BC nt b5 J5
    refine ⟨i5 _ _,λdp fe=>⟨i5 _ _,λr hr=>?_⟩⟩
    have s6:=aD.new (o:=.tup [.str "put",.ref q]) fe
    have s7:=aD.new (o:=.tup [.ref dp,.str "many"]) hr
    refine TJ J0 uo nt ((I5.same s6).same s7) (by omega) ⟨r,dp,10, "many",rfl,aq.of (Vw.at (I5.same s6).fx hr),by decide,rfl,(zO.same (H:=Vw [rl,t] (upd H5 dp (.tup [.str "put",.ref q]))) (Vw.same s7) (.inl ⟨.ref q,gF l,aq.of (Vw.at I5.fx fe),bC.mpr ⟨q,_,rfl,(I5.same s6).fx.ah (s6.ah hq),cI.mpr rfl⟩,.inr ⟨by rw [eN]; exact mj,by rw [eU]; exact lu,rfl⟩⟩))⟩ λH8 _ I8=>bO _ _ ⟨rfl,I8.up⟩
   ·exact bJ (decide_eq_false λz=>lu (by rw [lh] at z; injection z with z; omega)) (bO _ _ ⟨rfl,I3.up⟩)
  rintro σ H3 ⟨rfl,I3⟩
  refine gM ⟨_,rfl,10,20,rfl,rfl,⟨by decide,by decide,by decide⟩,t,a,ns,_,_,rfl,I3.c7,by omega,by decide,by decide +kernel,λse H4 f0 _ b4 J4=>?_⟩
  have I4:=I3.BC nt b4 J4
  have aaj:=hM.bc
  have lh:(a_ S.nums S.ts).length=S.nums.length:=gS W.p.sh.tl
  have yg:=st I4
  refine gM ⟨_,rfl,sp,_,rfl,kd I4 (aD.refl _) (lZ S),S.bc,rfl,by omega,by omega,?_⟩
  refine jV (n:=S.bc.toNat) (lo:=0) (λσ=>∃ u,σ = [u,some (.ref sp)]) (λi ys H'=>H'=H4/\ys.length<=i/\∀ y∈ys,∃ k,y=.int k/\k∉S.nums) (iI (by omega)) ⟨none,rfl⟩ ⟨rfl,Qh _,λy h=>absurd h (by simp)⟩ (λi ys H' h=>h.2.1) ?_ ?_
  ·rintro i ys σ H' hi ⟨u,rfl⟩ ⟨rfl,hl,hy⟩ hz
   dsimp only [bN]; rw [Wu]
   refine ⟨_,rfl,_,rfl,sp,_,rfl,kd I4 (aD.refl _) (cX S),S.ap,_,rfl,kF.k (k:=.inl (i:Int)) yg.ai,_,rfl,?_⟩
   by_cases hk:(i:Int)∈S.nums
   ·have wg:=qW hk
    obtain ⟨t0,qz⟩:∃ t0,S.ts[S.nums.idxOf (i:Int)]?=some t0:=⟨_,Qb (by rw [yg.tl]; exact (Qa.mp wg).1)⟩
    have va:bW (a_ S.nums S.ts) (.inl (i:Int))=some (.ref t0):=cJ dk wg qz
    exact bJ (by rw [va]; rfl) ⟨⟨_,rfl⟩,rfl,by omega,hy⟩
   ·have va:bW (a_ S.nums S.ts) (.inl (i:Int))=none:=iT (f:=V.ref) hk
    refine eG (by rw [va]; rfl) ⟨_,rfl,hz,⟨_,rfl⟩,rfl,by rw [Qg]; show _+1<=_; omega,λy oq=>?_⟩
    rcases Jg.mp oq with oq | oq
    ·exact hy y oq
    ·exact ⟨i,Qx.mp oq,hk⟩
  rintro qv H' ⟨rfl,tl,tk⟩ tp Dt
  have s5:=aD.new (o:=.lst qv) Dt
  have I5:=I4.same s5
  have D3:upd H' tp (.lst qv) tp=some (.lst qv):=aB
  have ntp:∀ {xs},H' rl=some (.lst xs)->tp≠rl:=λh z=>by rw [z,h] at Dt; cases Dt
  generalize upd H' tp (.lst qv)=H5 at s5 I5 D3 ⊢
  have ad:Al H5 [rl,t] (Ej (pQ 1) (tC (V.str "due"))) [some (.ref t),some (.ref sp),some (.ref rl),v3,some (.int se),some (.ref tp),none,none] (ED K [rl,t] (.int S.bc)):=λH6 s6 f6 Q6 k6=>⟨_,rfl,sp,_,rfl,kd I5 s6 (lZ S),k6 _ _ (aD.refl _) (cF.mpr rfl)⟩
  have yo:∀ {k:Int},k < 0∨S.bc<=k->∀ num,PyData.int k=.int num->num∉D.nums:=λh num e z=>by
   injection e with e
   subst e
   rw [eU] at z
   have:=hM.j2 _ z
   omega
  have Cs:∀ {d:PyData},(∀ num,d≠.int num)->∀ num,d=.int num->num∉D.nums:=λh num e=>absurd e (h num)
  refine pP (qY ⟨_,rfl,tJ (K:=K) (R:=λd=>∀ num,d=.int num->num∉D.nums) (S:=[rl,t]) (n:=10) I5.fx (aT (ED.dep ad (yo (by omega))) (aT (ED.dep (vV ad (jA rfl)) (yo (by omega))) (aT (ED.dep (Ee (g:=λi=>-i) dF) (yo (by omega))) (aT (ED.dep (vV (Ee (g:=λi=>-i) dF) (jA rfl)) (yo (by omega)))
   (aT (ED.dep sL (Cs (λn e=>by cases e))) (aT (ED.dep sL (Cs (λn e=>by cases e))) (aT (ED.dep zR (Cs (λn e=>by cases e))) (aT (ED.dep vU (Cs (λn e=>by cases e))) (aT (ED.dep (iU (cD dF eL)) (Cs (λn e=>by cases e))) (aT (ED.dep (zS (cD dF eL)) (Cs (λn e=>by cases e))) mC)))))))))) λq ys H6 s6 hq OA hy=>?_⟩)
  have HJ:=aD.new (o:=.lst ys) hq
  refine ⟨tp,q,qv,ys,rfl,rfl,HJ _ _ (s6 _ _ D3),aB,by rw [Rf]; omega,λlp fv=>?_⟩
  have s7:=HJ.trans (aD.new (o:=.lst (qv++ys)) fv)
  have I7:=I5.same (s6.trans s7)
  have e7:upd (upd H6 q (.lst ys)) lp (.lst (qv++ys)) lp=some (.lst (qv++ys)):=aB
  have YD:lp≠rl:=λz=>by
   obtain ⟨zs,h1,_⟩:=(I5.same (s6.trans HJ)).has
   rw [z,h1] at fv; cases fv
  have IZ:∀ y∈qv++ys,jd K (λd=>∀ num,d=.int num->num∉D.nums) [rl,t] (upd (upd H6 q (.lst ys)) lp (.lst (qv++ys))) y:=λy oq=>by
   rcases Jg.mp oq with h | h
   ·obtain ⟨k,rfl,hk⟩:=tk y h
    exact ⟨.int k,cF.mpr rfl,λnum e=>by injection e with e; rw [<- e,eU]; exact hk⟩
   ·exact (hy y h).keep (Vw.same s7)
  generalize upd (upd H6 q (.lst ys)) lp (.lst (qv++ys))=H7 at I7 e7 IZ ⊢
  have xl:(qv++ys).length<=110:=by rw [Qg]; omega
  generalize qv++ys=xs at e7 IZ xl ⊢
  refine ⟨lp,rfl,⟨_,au.of e7⟩,jB (K:=K) (a:=lp) (xs:=xs) (λi σ H'=>∃ v6,σ = [some (.ref t),some (.ref sp),some (.ref rl),v3,some (.int se),some (.ref tp),v6,none]/\RI K D t a ns rl H (N+18+1) (101+i) H'/\H' lp=some (.lst xs)/\∀ y∈xs,jd K (λd=>∀ num,d=.int num->num∉D.nums) [rl,t] H' y) ⟨none,rfl,I7,e7,IZ⟩ (λi σ H' _ ⟨_,_,_,h,_⟩=>au.of h) ?_ ?_⟩
  ·rintro i z σ H' hz ⟨v6,rfl,I',e',qy⟩
   have hi:i < xs.length:=(Qa.mp hz).1
   dsimp only [bN]
   refine zV J0 uo nt I' (by omega) rfl (tK (aGc (rF (R:=jd K (λd=>∀ num,d=.int num->num∉D.nums) [rl,t]) rfl (qy z (Qe hz)))) (by decide) rfl) λL6 Af By=>?_
   exact ⟨_,rfl,By,Af _ _ YD e',λy h=>(qy y h).keep (ba.vw Af (by simp))⟩
  rintro σ H8 ⟨v6,rfl,I8,_,_⟩
  replace I8:=I8.up (N':=N+19) (M':=300)
  dsimp only
  refine gM ⟨_,rfl,sp,_,rfl,kd I8 (aD.refl _) (cS S),S.n,1,rfl,rfl,?_⟩
  refine iK (λak H'=>ak = [some (.ref t),some (.ref sp),some (.ref rl),v3,some (.int se),some (.ref tp),v6,some (.int (S.n - 1))]/\RI K D t a ns rl H (N+19) 301 H') (λbO=>?_) ?_
  ·refine ⟨_,rfl,sp,_,rfl,kd I8 (aD.refl _) (cS S),rfl,_,rfl,?_⟩
   by_cases h6:S.n=6
   ·exact eG (decide_eq_true (by rw [h6])) (zV J0 uo nt I8 (by omega) rfl (tK (aGd (by rw [eN]; exact h6)) (by decide) rfl) λH9 _ I9=>bO _ _ ⟨rfl,I9.up⟩)
   ·exact bJ (decide_eq_false λz=>h6 (by injection z)) (bO _ _ ⟨rfl,I8.up⟩)
  rintro σ H9 ⟨rfl,I9⟩
  refine iK (λak H'=>ak = [some (.ref t),some (.ref sp),some (.ref rl),v3,some (.int se),some (.ref tp),v6,some (.int (S.n - 1))]/\RI K D t a ns rl H (N+19) 302 H') (λbO=>?_) ?_
  ·refine kM (decide (V.int (S.n - 1)=V.int 0) || (S.ws.any λl=>decide (S.n - 1∈l))) (vN (λQ' q=>⟨_,rfl,rfl,_,rfl,q _ (aD.refl _)⟩) (λ_ H3 s3=>?B8)) (λhb Ha sa=>?yes) (λhb Ha sa=>bO _ _ ⟨rfl,(I9.same sa).up⟩)
   case yes =>
    refine zV J0 uo nt (I9.same sa) (by omega) rfl (tK (aGe ?_) (by decide) rfl) λHb _ Ib=>bO _ _ ⟨rfl,Ib.up⟩
    rw [eN,eW]
    rcases Wg .. |>.mp hb with z | z
    ·have:=of_decide_eq_true z
     injection this with this
     exact .inl (by omega)
    ·obtain ⟨l,hl,hm⟩:=Xg.mp z
     exact .inr ⟨l,hl,of_decide_eq_true hm⟩
   case B8=>exact Sh ((st I9).same s3) hM rfl rfl
  rintro σ Ha ⟨rfl,Ia⟩
  obtain ⟨zs,h1,h2,h3⟩:=Ia.has
  exact ⟨_,rfl,k rl zs Ha uo Ia.but (Ia.c7.more (by omega)) h1 (by omega) h3⟩
theorem kD:∀ {a b:List cp} {S:SD},iJ S a->iJ (a.foldl SD.step S) b->iJ S (a++b)
 | [],_,_,_,h=>h
 | e::a,b,S,h,g=>⟨h.1,kD h.2 g⟩
def Bq (S:SD) (k:Int) (l:List Int):Prop:=∃ i:Nat,S.nums[i]?=some k/\S.ws[i]?=some l
theorem jb.nd (h:jb S):S.nums.Nodup:=Jd.mpr (h.up.imp λh=>Jz h)
theorem vX {k x:Int} (h:jb S):x∈(S.step (.take k)).nums↔x∈S.nums/\x≠k:=by
 show x∈S.nums.eraseIdx (S.nums.idxOf k)↔_
 rw [<- List.erase_eq_eraseIdx_of_idxOf rfl,h.nd.mem_erase_iff,and_comm]
theorem aGf {k x:Int} (h:Bq (S.step (.take k)) x l):Bq S x l:=by
 obtain ⟨i,h1,h2⟩:=h
 exact ⟨_,fJ h1,fJ h2⟩
structure Tks (S S':SD) (ks:List Int):Prop where
 n:S'.n=S.n
 bc:S'.bc=S.bc
 len:S'.nums.length+ks.length=S.nums.length
 m:jb S'
 mem:∀ k,k∈S'.nums↔k∈S.nums/\k∉ks
 pr:∀ k l,Bq S' k l->Bq S k l
theorem vY:∀ {ks:List Int} {S:SD},jb S->ks.Nodup->(∀ k∈ks,k∈S.nums)->iJ S (ks.map .take)/\Tks S ((ks.map .take).foldl SD.step S) ks
 | [],S,h,_,_=>⟨trivial,rfl,rfl,rfl,h,λk=>⟨λhk=>⟨hk,by simp⟩,λhk=>hk.1⟩,λ_ _ h=>h⟩
 | k::ks,S,h,nd,hk=>by
  have k0:k∈S.nums:=hk k (by simp)
  have FT:=Jk.mp nd
  obtain ⟨d,T⟩:=vY (S:=S.step (.take k)) (pO h (show jJ S (.take k) from k0)) FT.2 λx hx=>(vX h).mpr ⟨hk x (by simp [hx]),λz=>FT.1 (z ▸ hx)⟩
  have l1:(S.step (.take k)).nums.length=S.nums.length - 1:=vS k0
  have l0:0 < S.nums.length:=Wc k0
  refine ⟨⟨k0,d⟩,T.n,T.bc,?_,T.m,λx=>?_,λx l p=>aGf (T.pr x l p)⟩
  ·have:=T.len
   rw [Jo]
   show ((List.map cp.take ks).foldl SD.step (S.step (.take k))).nums.length+_=_
   omega
  ·refine ⟨λhx=>?_,λhx=>(T.mem x).mpr ⟨(vX h).mpr ⟨hx.1,λz=>hx.2 (by simp [z])⟩,λz=>hx.2 (by simp [z])⟩⟩
   obtain ⟨h1,h2⟩:=(T.mem x).mp hx
   obtain ⟨h3,h4⟩:=(vX h).mp h1
   exact ⟨h3,λz=>(Ql.mp z).elim h4 h2⟩
theorem pC (l:List α) (x:α):(l++[x]).eraseIdx l.length=l:=by
 rw [List.eraseIdx_append_of_length_le (Qh _),Jy]; simp
theorem U9 (h:jb S):((S.step (.put p l)).step (.take S.bc)).nums=S.nums/\((S.step (.put p l)).step (.take S.bc)).ws=S.ws:=by
 have e:(S.nums++[S.bc]).idxOf S.bc=S.nums.length:=by
  rw [List.idxOf_append,if_neg (λz=>by have:=(h.j2 _ z).2; omega)]
  simp
 refine ⟨?_,?_⟩
 ·show (S.nums++[S.bc]).eraseIdx ((S.nums++[S.bc]).idxOf S.bc)=_
  rw [e,pC]
 ·show (S.ws++[l]).eraseIdx ((S.nums++[S.bc]).idxOf S.bc)=_
  rw [e,<- h.len,pC]
theorem vZ {n x:Int} (h0:0<=x) (h1:x < n):cA n (gF [x])=true:=lY (by simp) (λy hy=>by rw [Qx.mp hy]; exact ⟨h0,h1⟩) (by simp)
theorem jb.f_ (h:jb S):1<=S.n/\S.n<=6/\S.nums.length<=12:=by
 obtain ⟨h1,h6,lu,_⟩:=aZ h.bk
 exact ⟨h1,h6,by rw [<- h.len]; exact lu⟩
def nI (S:SD) (p:Addr):List cp:=(S.nums.take 2).map .take++[.put p [0],.take S.bc]
structure Ga (S S':SD):Prop where
 n:S'.n=S.n
 bc:S'.bc=S.bc+1
 len:S'.nums.length<=10
 m:jb S'
 mem:∀ k,k∈S'.nums↔k∈S.nums.drop 2
 pr:∀ k l,Bq S' k l->Bq S k l
theorem aET (h:jb S):iJ S (nI S p)/\Ga S ((nI S p).foldl SD.step S):=by
 obtain ⟨d,T⟩:=vY (ks:=S.nums.take 2) h (h.nd.sublist (List.take_sublist ..)) λk hk=>List.mem_of_mem_take hk
 unfold nI
 rw [Yv]
 generalize yh:((S.nums.take 2).map cp.take).foldl SD.step S=S1 at T ⊢
 obtain ⟨n1,n6,i9⟩:=h.f_
 have YY:S1.nums.length<=10:=by
  have:=T.len
  rw [Ji] at this
  omega
 have dm:jJ S1 (.put p [0]):=⟨vZ (by decide) (by rw [T.n]; omega),by omega⟩
 have m2:=pO T.m dm
 have dt:jJ (S1.step (.put p [0])) (.take S.bc):=by
  show S.bc∈S1.nums++[S1.bc]
  rw [T.bc]; simp
 have m3:=pO m2 dt
 rw [<- T.bc] at m3
 obtain ⟨e1,e2⟩:=U9 (p:=p) (l:=[0]) T.m
 refine ⟨kD d (by rw [yh]; exact ⟨dm,dt,trivial⟩),T.n,?_,?_,?_,?_,?_⟩
 ·show S1.bc+1=_
  rw [T.bc]
 ·show (((S1.step (.put p [0])).step (.take S.bc)).nums).length<=10
  rw [<- T.bc,e1]; exact YY
 ·show jb ((S1.step (.put p [0])).step (.take S.bc))
  rw [<- T.bc]; exact m3
 ·intro k
  show k∈((S1.step (.put p [0])).step (.take S.bc)).nums↔_
  rw [<- T.bc,e1,T.mem k]
  have nd:(S.nums.take 2++S.nums.drop 2).Nodup:=by rw [Zv]; exact h.nd
  have FT:=(Xj.mp nd).2.2
  refine ⟨λ⟨h1,h2⟩=>?_,λhk=>⟨List.mem_of_mem_drop hk,λz=>FT k z k hk rfl⟩⟩
  rw [<- Zv 2 S.nums] at h1
  exact (Jg.mp h1).resolve_left h2
 ·rintro k l ⟨i,h1,h2⟩
  have r_:((S1.step (.put p [0])).step (.take S.bc)).nums[i]?=some k:=h1
  have mq:((S1.step (.put p [0])).step (.take S.bc)).ws[i]?=some l:=h2
  rw [<- T.bc,e1] at r_
  rw [<- T.bc,e2] at mq
  exact T.pr k l ⟨i,r_,mq⟩
theorem aEU (h:jb S) (h6:S.n < 6) (QM:S.nums.length<=10):iJ S [.c8,.put p [S.n],.take S.bc,.go]:=by
 obtain ⟨n1,_,_⟩:=h.f_
 have d1:jJ S .c8:=show S.n≠6 by omega
 have m1:=pO h d1
 have d2:jJ (S.step .c8) (.put p [S.n]):=⟨vZ (show (0:Int)<=S.n by omega) (show S.n < S.n+1 by omega),show S.nums.length < 12 by omega⟩
 have m2:=pO m1 d2
 have d3:jJ ((S.step .c8).step (.put p [S.n])) (.take S.bc):=by show S.bc∈S.nums++[S.bc]; simp
 obtain ⟨_,e2⟩:=U9 (p:=p) (l:=[S.n]) m1
 refine ⟨d1,d2,d3,⟨show S.n+1≠1 by omega,λl hl=>?_⟩,trivial⟩
 have jt:l∈S.ws:=by
  have:l∈(((S.step .c8).step (.put p [S.n])).step (.take (S.step .c8).bc)).ws:=hl
  rw [e2] at this
  exact this
 intro hm
 have:=(bA ((aZ h.bk).2.2.2 l jt)).2.1 _ hm
 have e:(((S.step .c8).step (.put p [S.n])).step (.take S.bc)).n=S.n+1:=rfl
 rw [e] at this
 omega
theorem aEV {ks:List Int} (h:jb S) (h6:S.n=6) (QM:S.nums.length<=10) (nd:ks.Nodup) (hk:∀ k∈ks,k∈S.nums) (hl:∀ k l,Bq S k l->S.n - 1∈l->k∈ks):iJ S (ks.map .take++[.go,.c8,.put p [S.n - 1]]):=by
 obtain ⟨d,T⟩:=vY h nd hk
 refine kD d ?_
 generalize (ks.map cp.take).foldl SD.step S=S1 at T ⊢
 have en:=T.n
 have d1:jJ S1 .go:=by
  refine ⟨by omega,λl jt hm=>?_⟩
  obtain ⟨i,hi⟩:=Qv.mp jt
  obtain ⟨k,qe⟩:∃ k,S1.nums[i]?=some k:=⟨_,Qb (by rw [<- T.m.len]; exact (Qa.mp hi).1)⟩
  rw [en] at hm
  exact ((T.mem k).mp (Qe qe)).2 (hl k l (T.pr k l ⟨i,qe,hi⟩) hm)
 have hlen:=T.len
 refine ⟨d1,show S1.n - 1≠6 by omega,⟨vZ (show (0:Int)<=S.n - 1 by omega) (show S.n - 1 < S1.n - 1+1 by omega),show S1.nums.length < 12 by omega⟩,trivial⟩
def BL (K:Rb) (lp:Addr) (es:List cp) (H:Hp):Prop:=∃ b_,H lp=some (.lst (b_.map V.ref))/\d8 K H b_ es
def fM (S:SD) (m:Int) (k:Int):Bool:=match S.ws[S.nums.idxOf k]? with
 | some l=>decide (m∈l)
 | none=>false
theorem SA {m k:Int} (nd:S.nums.Nodup) (h1:S.nums[j]?=some k) (h2:S.ws[j]?=some l):fM S m k=decide (m∈l):=by
 have hk:=qW (Qe h1)
 have e:S.nums.idxOf k=j:=by
  obtain ⟨a1,b1⟩:=Qa.mp h1
  obtain ⟨a2,b2⟩:=Qa.mp hk
  exact (Zh nd).mp (b2.trans b1.symm)
 unfold fM
 rw [e,h2]
section
variable {lp:Addr} {es fs:List cp}
theorem BL.same (h:BL K lp es H) (s:aD H H'):BL K lp es H':=let ⟨d,h1,h2⟩:=h; ⟨d,s _ _ h1,h2.same s⟩
end
def TH (K:Rb) (C Pt Pl:Addr):Sp:=λvs H Q _=>∃ (t a:Addr) (ns:List Int) (N:Nat) (x sp:Addr) (D:DD) (S:SD),vs = [.ref t,.ref x,.ref sp]/\Wn K H C t a ns N Pt Pl x sp D S/\N<=500000/\∀ D' S' H',Wn K H' C t a ns (N+300) Pt Pl x sp D' S'->Q (.bl true) H'
theorem jO:af ["jar", "dealing", "state", "deeds", "hands", "some", "turn"] ["jar", "dealing", "state"] (aI pF):=.of
set_option maxHeartbeats 2000000 in
theorem aEW {fE:Addr} {dE:FuncData} (G:Fn K mg "_law_e_good_behind" pF ["jar", "dealing", "state"] f fd) (B:Bl mg) (Hn:Fn K mg "_law_e_all_done" nB ["jar", "dealing", "state", "deeds"] fD dD) (Hj:ae P w K mg base ao 12 fD dD ["jar", "dealing", "state", "deeds"] (rT K C Pt Pl)) (MA:Fn K mg "_law_e_deed" xE ["jar", "state"] fE dE) (LY:ae P w K mg base ao 4 fE dE ["jar", "state"] (LD K)):ae P w K mg base ao 13 f fd ["jar", "dealing", "state"] (TH K C Pt Pl):=by
 refine G.fn.oK jO λbg A outer s H vs Q E hr h=>?_
 ·obtain ⟨t,a,ns,N,x,sp,D,S,rfl,W,hN,k⟩:=h
  have FJ:aj 12 _:=hr
  have r4:aj 4 _:=hr.mono (by decide)
  have hu:=bU hr
  refine gp.ex (aM ⟨(lR (i:=3) (own:=["number"]) (fr:=[]) (bo:=[]) (bK (aI pF) ["jar", "dealing", "state", "deeds", "hands", "some", "turn"] rfl rfl (by decide +kernel)) rfl jO.nd rfl rfl rfl (hU (mQ UG (aL (eR rfl) rfl B.sorted lC (aA (aQ (bU hr) (pv 2) aK (λ_ _=>rfl)) aC)) pS (pT aH))) (λ_ _ _ _=>(aV (i:=0) (show (["number"]:List Str).Nodup by decide +kernel) rfl (Or.inl rfl))) (λ_ _ _ _=>eM) (λ_ _ _ _=>(cB (aA aK (aA (pv 0) aC)))))⟩
   (aM (cO (i:=3) jO.nd rfl (Or.inl rfl) (mW iB ⟨(pv 3)⟩ (eJ (aG (cN (aG cG (aG (cN (aG cZ bD aO)) bD eF) aO)) (aG (cN (aG cG (aG ⟨(aQ (bU hr) (pv 2) aK (λ_ _=>rfl))⟩ bD Ls) aO)) bD eF) eF))))
   (aM (cO (i:=4) jO.nd rfl (Or.inr rfl) ⟨(aQ (bU hr) (pv 2) aK (λ_ _=>rfl))⟩)
   (aM (fX (aP wM (pv 4) aH (aU _)) (bE (cO (i:=3) jO.nd rfl (Or.inl rfl) (mW iB ⟨(pv 3)⟩ (eJ (aG (cN (aG cG bD aO)) (aG (cN (aG cG (aG (cN (aG ⟨(pv 4)⟩ bD yE)) bD eF) aO)) (aG (cN (aG cG (aG ⟨(aY eD (aQ (bU hr) (pv 2) aK (λ_ _=>rfl)) aH)⟩ bD jH) aO)) (aG (cN (aG cG bD aO)) bD eF) eF) eF) eF))))) (aM ⟨(lR (i:=5) (own:=["number"]) (fr:=[4,2]) (bo:=["hands", "state"]) (bK (aI pF) ["jar", "dealing", "state", "deeds", "hands", "some", "turn"] rfl rfl (by decide +kernel)) rfl jO.nd rfl rfl rfl (hU (mQ UG (aL (eR rfl) rfl B.sorted lC (aA (aQ (bU hr) (pv 2) aK (λ_ _=>rfl)) aC)) (pT aH) pS)) (λ_ _ _ _=>(aV (i:=0) (show (["number", "hands", "state"]:List Str).Nodup by decide +kernel) rfl (Or.inl rfl))) (λ_ _ _ _=>xZ (aP (gY (K:=K) rfl) (aY fP (pv 1) aH) (aQ (bU hr) (aQ (bU hr) (pv 2) aK (λ_ _=>rfl)) (pv 0) (λ_ _=>rfl)) (by with_unfolding_all rfl))) (λ_ _ _ _=>(pv 0)))⟩
   (aM (cO (i:=3) jO.nd rfl (Or.inl rfl) ⟨(aY iB (pv 3) (gD (own:=["number"]) (fr:=[]) (bo:=[]) (bK (aI pF) ["jar", "dealing", "state", "deeds", "hands", "some", "turn"] rfl rfl (by decide +kernel)) rfl (hU (pv 5)) (λ_ _ _ _=>(aV (i:=0) (show (["number"]:List Str).Nodup by decide +kernel) rfl (Or.inl rfl))) (λ_ _ _ _=>eM) (λ_ _ _ _=>(cB (aA aK (aA (pv 0) aC))))))⟩)
   (bE (cO (i:=3) jO.nd rfl (Or.inl rfl) (mW iB ⟨(pv 3)⟩ (eJ (aG (cN (aG cG bD aO)) (aG (cN (aG cG bD aO)) (aG (cN (aG cG (aG (cN (aG ⟨(aY fP (pv 4) aH)⟩ bD jH)) bD eF) aO)) bD eF) eF) eF))))))))
   (aM (fX (bV (bL (aW Hn Hj FJ rfl (aA (pv 0) (aA (pv 1) (aA (pv 2) (aA (pv 3) aC))))))) (bE (gO eY)) cY)
   (aM (oE PassesOwn.never rfl (dZ rfl B.range (aA aH aC)) (aV (i:=6) jO.nd rfl (Or.inl rfl)) (bE (fX (bV (bL (aW Hn Hj FJ rfl (aA (pv 0) (aA (pv 1) (aA (pv 2) (aA (gT (aA (aW MA LY r4 rfl (aA (pv 0) (aA (pv 2) aC))) aC)) aC))))))) (bE (gO eY)) cY)) (λ_=>rfl))
   (bE (gO eY)))))))) ?_
  obtain ⟨i9,n1,n6⟩:=W.i9
  have hM:=W.p.sm
  have dk:=hM.nd
  have dg:∀ {H':Hp} {key:Str} {v:V},Wn K H' C t a ns N Pt Pl x sp D S->bW S.kv (.inr key)=some v->kF H' sp (.str key) (some v):=λW e=>W.p.sh.dr (k:=.inr _) e
  obtain ⟨n0,OZ⟩:∃ n0,n0=S.n:=⟨_,rfl⟩
  refine gM ⟨_,rfl,sp,_,rfl,dg W (cX S),S.ap,_,S.nums,rfl,.inl W.p.sh.ai,jG W.p.sh.tl,by omega,λp ms hp iy m7=>?_⟩
  have em:=W.gf iy m7
  subst em
  refine ⟨2,rfl,p,_,rfl,au.of aB,λq hq=>?_⟩
  rw [show (2:Int)=((2:Nat):Int) from rfl,UR,<- List.map_take]
  have s1:=(aD.new (o:=.lst (S.nums.map V.int)) hp).trans (aD.new (o:=.lst ((S.nums.take 2).map V.int)) hq)
  have W1:=W.same s1
  have eq1:upd (upd H p (.lst (S.nums.map V.int))) q (.lst ((S.nums.take 2).map V.int)) q=some (.lst ((S.nums.take 2).map V.int)):=aB
  generalize upd (upd H p (.lst (S.nums.map V.int))) q (.lst ((S.nums.take 2).map V.int))=H1 at W1 eq1 ⊢
  refine ⟨q,rfl,⟨_,au.of eq1⟩,nN (K:=K) (a:=q) (xs:=(S.nums.take 2).map V.int) (λσ=>∃ u,σ = [u]) (λi ys H'=>Wn K H' C t a ns N Pt Pl x sp D S/\H' q=some (.lst ((S.nums.take 2).map V.int))/\∃ b_,ys=b_.map V.ref/\d8 K H' b_ (((S.nums.take 2).take i).map .take)) (iI (by simp; omega)) ⟨none,rfl⟩ ⟨W1,eq1,[],rfl,d8.nil⟩ (λi ys H' ⟨_,_,b_,e,h⟩=>by rw [e,Qd,h.len,Qd,Ji]; omega) (λi ys H' h=>au.of h.2.1) ?_ ?_⟩
  ·rintro i ys σ z H' hz ⟨u,rfl⟩ ⟨W',e',b_,rfl,hA⟩ hlen
   rw [Qi] at hz
   obtain ⟨k0,CB,rfl⟩:=Qs.mp hz
   refine cQ ?_
   refine ⟨_,rfl,i5 _ _,λdp fe=>⟨hlen,⟨_,rfl⟩,W'.same (aD.new fe),aD.new fe _ _ e',b_++[dp],by rw [Qw]; rfl,?_⟩⟩
   rw [Jw,CB,Qw]
   exact (hA.same (aD.new fe)).append (d8.one (e:=.take k0) (aq.of aB))
  clear W1 eq1 s1
  rintro ys H2 ⟨W2,_,b_,rfl,hA⟩ l1 yb
  rw [show (S.nums.take 2).take ((S.nums.take 2).map V.int).length=S.nums.take 2 from Jn (by simp)] at hA
  -- + put (0,),take due
  refine gM ⟨_,rfl,js 1 (by decide) |> Jh,λp0 AZ=>⟨i5 _ _,λd1 j0=>⟨_,rfl,sp,.int S.bc,rfl,?_⟩⟩⟩
  have s3:=(aD.new (o:=.lst (b_.map V.ref)) yb).trans ((aD.new (o:=.tup [.int 0]) AZ).trans (aD.new (o:=.tup [.str "put",.ref p0]) j0))
  have KD:upd (upd (upd H2 l1 (.lst (b_.map V.ref))) p0 (.tup [.int 0])) d1 (.tup [.str "put",.ref p0]) l1=some (.lst (b_.map V.ref)):=((aD.new (o:=.tup [.int 0]) AZ).trans (aD.new j0)) _ _ aB
  have g1:gL K (upd (upd (upd H2 l1 (.lst (b_.map V.ref))) p0 (.tup [.int 0])) d1 (.tup [.str "put",.ref p0])) d1 (.put p0 [0]):=⟨aq.of aB,(aD.new j0).ah (aq.of aB)⟩
  have W3:=W2.same s3
  have Kt:=hA.same s3
  clear AZ j0 yb
  generalize upd (upd (upd H2 l1 (.lst (b_.map V.ref))) p0 (.tup [.int 0])) d1 (.tup [.str "put",.ref p0])=H3 at s3 KD g1 W3 Kt ⊢
  refine ⟨dg W3 (lZ S),i5 _ _,λd2 hd2=>⟨i5 _ _,λl2 mn=>?_⟩⟩
  have s4:=(aD.new (o:=.tup [.str "take",.int S.bc]) hd2).trans (aD.new (o:=.lst [.ref d1,.ref d2]) mn)
  have dl:b_.length<=2:=by rw [hA.len,Qd,Ji]; omega
  refine ⟨l1,l2,_,_,rfl,rfl,s4 _ _ KD,aB,by rw [Rf,Qd]; simp; omega,λl3 A3=>?_⟩
  have g2:gL K (upd (upd H3 d2 (.tup [.str "take",.int S.bc])) l2 (.lst [.ref d1,.ref d2])) d2 (.take S.bc):=(aD.new mn).ah (aq.of aB)
  have s5:=s4.trans (aD.new (o:=.lst (b_.map V.ref++[.ref d1,.ref d2])) A3)
  have W5:=W3.same s5
  have Oj:l3≠t:=(W3.same s4).c7.ne A3
  have B5:BL K l3 (nI S p0) (upd (upd (upd H3 d2 (.tup [.str "take",.int S.bc])) l2 (.lst [.ref d1,.ref d2])) l3 (.lst (b_.map V.ref++[.ref d1,.ref d2]))) :=
   ⟨b_++[d1,d2],by rw [Qw]; exact aB,(Kt.same s5).append (d8.cons (g1.same s5) (d8.one (g2.same (aD.new A3))))⟩
  clear A3 mn hd2 g2 g1 s4 s3 KD Kt W3 W2 hA
  generalize upd (upd (upd H3 d2 (.tup [.str "take",.int S.bc])) l2 (.lst [.ref d1,.ref d2])) l3 (.lst (b_.map V.ref++[.ref d1,.ref d2]))=H5 at W5 B5 ⊢
  obtain ⟨dA,A⟩:=aET (p:=p0) hM
  have eA:(nI S p0).length<=4:=by unfold nI; rw [Qg,Qd,Ji]; simp; omega
  generalize oy:(nI S p0).foldl SD.step S=S3 at A
  refine gM ⟨_,rfl,sp,_,rfl,dg W5 (cS S),?_⟩
  refine kC (λak H'=>∃ lp es v5,ak = [some (.ref t),some (.ref x),some (.ref sp),some (.ref lp),some (.int S.n),v5,none]/\Wn K H' C t a ns N Pt Pl x sp D S/\BL K lp es H'/\lp≠t/\iJ S es/\es.length<=30) (λN' bO=>?_) ?_
  ·refine ⟨_,rfl,S.n,6,rfl,rfl,_,rfl,?_⟩
   by_cases h6:S.n < 6
   ·refine eG (decide_eq_true h6) ?_
    refine ⟨_,rfl,js 1 (by decide) |> Jh,λd1 j0=>⟨_,rfl,js 1 (by decide) |> Jh,λq hq=>⟨i5 _ _,λd2 hd2=>⟨_,rfl,sp,.int S.bc,rfl,?_⟩⟩⟩⟩
    have s6:=(aD.new (o:=.tup [.str "come"]) j0).trans ((aD.new (o:=.tup [.int S.n]) hq).trans (aD.new (o:=.tup [.str "put",.ref q]) hd2))
    have g1:gL K (upd (upd (upd H5 d1 (.tup [.str "come"])) q (.tup [.int S.n])) d2 (.tup [.str "put",.ref q])) d1 .c8:=((aD.new (o:=.tup [.int S.n]) hq).trans (aD.new hd2)).ah (aq.of aB)
    have g2:gL K (upd (upd (upd H5 d1 (.tup [.str "come"])) q (.tup [.int S.n])) d2 (.tup [.str "put",.ref q])) d2 (.put q [S.n]):=⟨aq.of aB,(aD.new hd2).ah (aq.of aB)⟩
    have W6:=W5.same s6
    have B6:=B5.same s6
    clear j0 hq hd2
    generalize upd (upd (upd H5 d1 (.tup [.str "come"])) q (.tup [.int S.n])) d2 (.tup [.str "put",.ref q])=H6 at s6 g1 g2 W6 B6 ⊢
    refine ⟨dg W6 (lZ S),S.bc,1,rfl,rfl,i5 _ _,λd3 J7=>⟨js 1 (by decide) |> Jh,λd4 O7=>⟨NP _ _ _ _,λl4 zu=>?_⟩⟩⟩
    have s7:=(aD.new (o:=.tup [.str "take",.int (S.bc+1)]) J7).trans ((aD.new (o:=.tup [.str "go"]) O7).trans (aD.new (o:=.lst [.ref d1,.ref d2,.ref d3,.ref d4]) zu))
    obtain ⟨ds,e6,A6⟩:=B6
    refine ⟨l3,l4,_,_,rfl,rfl,s7 _ _ e6,aB,by rw [Rf,Qd,A6.len]; simp; omega,λl5 A2=>?_⟩
    have s8:=s7.trans (aD.new (o:=.lst (ds.map V.ref++[.ref d1,.ref d2,.ref d3,.ref d4])) A2)
    have gB:=aEU (p:=q) A.m (by rw [A.n]; exact h6) A.len
    rw [A.n,A.bc] at gB
    refine bO _ _ ⟨l5,nI S p0++[.c8,.put q [S.n],.take (S.bc+1),.go],none,rfl,W6.same s8,⟨ds++[d1,d2,d3,d4],by rw [Qw]; exact aB,(A6.same s8).append (d8.cons (g1.same s8) (d8.cons (g2.same s8) (d8.cons ?_ (d8.one ?_))))⟩,(W6.same s7).c7.ne A2,kD dA (by rw [oy]; exact gB),by rw [Qg]; simp; omega⟩
    ·exact ((aD.new (o:=.tup [.str "go"]) O7).trans ((aD.new zu).trans (aD.new A2))).ah (aq.of aB)
    ·exact ((aD.new zu).trans (aD.new A2)).ah (aq.of aB)
   ·refine bJ (decide_eq_false h6) ?_
    have e6:S.n=6:=by omega
    refine gM ⟨_,rfl,sp,_,rfl,dg W5 (cX S),S.ap,_,S.nums,rfl,.inl W5.p.sh.ai,jG W5.p.sh.tl,by omega,λp ms hp iy m7=>?_⟩
    have em:=W5.gf iy m7
    subst em
    refine ⟨_,rfl,p,_,rfl,au.of aB,λq hq=>?_⟩
    rw [wW,<- List.map_drop]
    have s6:=(aD.new (o:=.lst (S.nums.map V.int)) hp).trans (aD.new (o:=.lst ((S.nums.drop 2).map V.int)) hq)
    have W6:=W5.same s6
    have B6:=B5.same s6
    have KC:upd (upd H5 p (.lst (S.nums.map V.int))) q (.lst ((S.nums.drop 2).map V.int)) q=some (.lst ((S.nums.drop 2).map V.int)):=aB
    generalize upd (upd H5 p (.lst (S.nums.map V.int))) q (.lst ((S.nums.drop 2).map V.int))=H6 at W6 B6 KC ⊢
    refine ⟨q,rfl,⟨_,au.of KC⟩,nN (K:=K) (a:=q) (xs:=(S.nums.drop 2).map V.int) (λσ=>∃ u,σ = [u,some (.int S.n),some (.ref sp)]) (λi ys H'=>H'=H6/\ys=(((S.nums.drop 2).take i).filter (fM S (S.n - 1))).map V.int) (iI (by simp; omega)) ⟨none,rfl⟩ ⟨rfl,rfl⟩ (λi ys H' h=>by rw [h.2,Qd]; exact Ja (Zd ..) (by rw [Ji]; omega)) (λi ys H' h=>by rw [h.1]; exact au.of KC) ?_ ?_⟩
    ·rintro i ys σ z H' hz ⟨u,rfl⟩ ⟨rfl,rfl⟩ hlen
     rw [Qi] at hz
     obtain ⟨k0,CB,rfl⟩:=Qs.mp hz
     have zv:=CB
     rw [List.getElem?_drop] at zv
     have hj:=(Qa.mp zv).1
     obtain ⟨t0,qz⟩:∃ t0,S.ts[2+i]?=some t0:=⟨_,Qb (by rw [W6.p.sh.tl]; exact hj)⟩
     obtain ⟨l0,Cz⟩:∃ l0,S.ws[2+i]?=some l0:=⟨_,Qb (by rw [W6.p.sh.wl]; exact hj)⟩
     have j9:=W6.p.sh.tup _ _ _ qz Cz
     dsimp only [bN]
     refine ⟨_,rfl,S.n,1,rfl,rfl,_,rfl,sp,_,rfl,dg W6 (cX S),_,rfl,S.ap,.ref t0,rfl,.inl ⟨_,.inl k0,.inl W6.p.sh.ai,rfl,(cJ dk zv qz).symm⟩,t0,_,rfl,.inr j9,rfl,jQ _,_,rfl,?_⟩
     rw [qS,<- SA dk zv Cz,Jw,CB,Yj,Qw]
     cases hf:fM S (S.n - 1) k0 with
     | true=>exact kN ⟨_,rfl,hlen,⟨_,rfl⟩,rfl,by simp [hf]⟩
     | false=>exact oH ⟨⟨_,rfl⟩,rfl,by simp [hf]⟩
    rintro ys H' ⟨rfl,rfl⟩ l5 A2
    rw [show (S.nums.drop 2).take ((S.nums.drop 2).map V.int).length=S.nums.drop 2 from Jn (by simp)]
    obtain ⟨ks,Dz⟩:∃ ks,ks=(S.nums.drop 2).filter (fM S (S.n - 1)):=⟨_,rfl⟩
    rw [<- Dz]
    have kl:ks.length<=12:=by rw [Dz]; exact Ja (Zd ..) (by rw [Xy]; omega)
    have W7:=W6.same (aD.new (o:=.lst (ks.map V.int)) A2)
    have B7:=B6.same (aD.new (o:=.lst (ks.map V.int)) A2)
    have e7:upd H' l5 (.lst (ks.map V.int)) l5=some (.lst (ks.map V.int)):=aB
    generalize upd H' l5 (.lst (ks.map V.int))=H7 at W7 B7 e7 ⊢
    refine gM ⟨_,rfl,_,rfl,l5,rfl,⟨_,au.of e7⟩,nN (K:=K) (a:=l5) (xs:=ks.map V.int) (λσ=>∃ u,σ = [u]) (λi ys H'=>Wn K H' C t a ns N Pt Pl x sp D S/\BL K l3 (nI S p0) H'/\H' l5=some (.lst (ks.map V.int))/\∃ b_,ys=b_.map V.ref/\d8 K H' b_ ((ks.take i).map .take)) (iI (by simp; omega)) ⟨none,rfl⟩ ⟨W7,B7,e7,[],rfl,d8.nil⟩ (λi ys H' ⟨_,_,_,b_,e,h⟩=>by rw [e,Qd,h.len,Qd,Ji]; omega) (λi ys H' h=>au.of h.2.2.1) ?_ ?_⟩
    ·rintro i ys σ z H' hz ⟨u,rfl⟩ ⟨W',B',e',b_,rfl,hA⟩ hlen
     rw [Qi] at hz
     obtain ⟨k0,CB,rfl⟩:=Qs.mp hz
     refine cQ ?_
     refine ⟨_,rfl,i5 _ _,λdp fe=>⟨hlen,⟨_,rfl⟩,W'.same (aD.new fe),B'.same (aD.new fe),aD.new fe _ _ e',b_++[dp],by rw [Qw]; rfl,?_⟩⟩
     rw [Jw,CB,Qw]
     exact (hA.same (aD.new fe)).append (d8.one (e:=.take k0) (aq.of aB))
    rintro ys H8 ⟨W8,⟨GF,e8,A8⟩,_,b_,rfl,hA⟩ l6 ur
    rw [show ks.take (ks.map V.int).length=ks from Jn (by simp)] at hA
    have s9:=aD.new (o:=.lst (b_.map V.ref)) ur
    refine ⟨l3,l6,_,_,rfl,rfl,s9 _ _ e8,aB,by rw [Rf,Qd,Qd,A8.len,hA.len,Qd]; omega,λl7 O1=>?_⟩
    have C_:=s9.trans (aD.new (o:=.lst (GF.map V.ref++b_.map V.ref)) O1)
    have wz:=W8.same C_
    have Wy:BL K l7 (nI S p0++ks.map .take) (upd (upd H8 l6 (.lst (b_.map V.ref))) l7 (.lst (GF.map V.ref++b_.map V.ref))):=⟨GF++b_,by rw [Qw]; exact aB,(A8.append hA).same C_⟩
    clear O1 ur s9 C_ W8 A8 e8 hA
    generalize upd (upd H8 l6 (.lst (b_.map V.ref))) l7 (.lst (GF.map V.ref++b_.map V.ref))=Ha at wz Wy ⊢
    refine ⟨_,rfl,js 1 (by decide) |> Jh,λd1 j0=>⟨js 1 (by decide) |> Jh,λd2 hd2=>⟨_,rfl,S.n,1,rfl,rfl,js 1 (by decide) |> Jh,λq hq=>⟨i5 _ _,λd3 J7=>⟨zd _ _ _,λl8 Z4=>?_⟩⟩⟩⟩⟩
    have t1:=aD.new (o:=.tup [.str "go"]) j0
    have t2:=aD.new (o:=.tup [.str "come"]) hd2
    have t3:=aD.new (o:=.tup [.int (S.n - 1)]) hq
    have t4:=aD.new (o:=.tup [.str "put",.ref q]) J7
    have t5:=aD.new (o:=.lst [.ref d1,.ref d2,.ref d3]) Z4
    have C6:=t2.trans (t3.trans (t4.trans t5))
    obtain ⟨ds,F!,WA⟩:=Wy
    refine ⟨l7,l8,_,_,rfl,rfl,(t1.trans C6) _ _ F!,aB,by rw [Rf,Qd,WA.len,Qg,Qd]; simp; omega,λl9 Dy=>?_⟩
    have t6:=aD.new (o:=.lst (ds.map V.ref++[.ref d1,.ref d2,.ref d3])) Dy
    have gC:=aEV (p:=q) (ks:=ks) A.m (by rw [A.n]; exact e6) A.len (by rw [Dz]; exact (dk.sublist (List.drop_sublist ..)).filter _) (λk hk=>(A.mem k).mpr (by rw [Dz] at hk; exact (Xk.mp hk).1)) λk l hp hm=>by
     obtain ⟨j,sy,A4⟩:=hp
     have kd:=(A.mem k).mp (Qe sy)
     obtain ⟨j',g1,g2⟩:=A.pr k l ⟨j,sy,A4⟩
     rw [A.n] at hm
     rw [Dz]
     exact Xk.mpr ⟨kd,by rw [SA dk g1 g2]; exact decide_eq_true hm⟩
    rw [A.n] at gC
    refine bO _ _ ⟨l9,(nI S p0++ks.map .take)++[.go,.c8,.put q [S.n - 1]],_,rfl,wz.same ((t1.trans C6).trans t6),⟨ds++[d1,d2,d3],by rw [Qw]; exact aB,(WA.same ((t1.trans C6).trans t6)).append (d8.cons ?_ (d8.cons ?_ (d8.one ?_)))⟩,(wz.same (t1.trans C6)).c7.ne Dy,by rw [List.append_assoc]; exact kD dA (by rw [oy]; exact gC),by rw [Qg,Qg,Qd]; simp; omega⟩
    ·exact (C6.trans t6).ah (aq.of aB)
    ·exact ((t3.trans (t4.trans t5)).trans t6).ah (aq.of aB)
    ·exact ⟨(t5.trans t6).ah (aq.of aB),((t4.trans t5).trans t6).ah (aq.of aB)⟩
  ·rintro σ H6 ⟨lp,es,v5,rfl,W6,⟨ds,e6,A6⟩,YC,dM,el⟩
   refine ⟨_,rfl,_,rfl,_,rfl,_,rfl,t,a,ns,N,x,sp,lp,D,S,ds,es,rfl,W6,by omega,YC.symm,⟨e6,A6.len,A6.all⟩,dM,λD' H7 W7=>⟨true,rfl,bJ rfl ?_⟩⟩
   refine ⟨4,rfl,by decide,by decide,iO (lo:=0) (n:=(4:Int).toNat) (λi σ H'=>∃ v6 D S,σ = [some (.ref t),some (.ref x),some (.ref sp),some (.ref lp),some (.int n0),v5,v6]/\Wn K H' C t a ns (N+150+30*i) Pt Pl x sp D S) ⟨none,D',_,by rw [OZ],W7.more (by omega)⟩ ?_ ?_⟩
   ·rintro i σ H' hi ⟨v6,D1,S1,rfl,W8⟩
    have hi:i < 4:=hi
    dsimp only [bN]
    refine ⟨_,rfl,_,rfl,_,rfl,_,rfl,_,rfl,t,a,ns,_,sp,S1,rfl,W8.c7,by omega,W8.p.sh,W8.p.sm,λdp e H9 b9 J9 hE DV=>⟨js 1 (by decide) |> Jh,λl9 Dy=>?_⟩⟩
    have W9:=W8.but b9 J9
    have s9:=aD.new (o:=.lst [.ref dp]) Dy
    refine ⟨t,a,ns,_,x,sp,l9,D1,S1,[dp],[e],rfl,W9.same s9,by simp; omega,(W9.c7.ne Dy).symm,⟨aB,rfl,(d8.one (hE.same s9)).all⟩,⟨DV,trivial⟩,λD2 Hb Wb=>⟨true,rfl,bJ rfl ⟨_,D2,_,rfl,Wb.more (by simp; omega)⟩⟩⟩
   ·rintro σ H' ⟨v6,D1,S1,rfl,W8⟩
    exact k D1 S1 H' (W8.more (by show N+150+30*4<=_; omega))
end Ab
namespace L2
open PySem PySem.Spec PyProof.Rows
theorem aA0 (hK:X.K=K) (hu:X.A.units+100 < cLine):fm X (compareOp .NotEq) (U' K):=by subst hK; exact aBN hu
end L2
namespace Ab
open PySem L2
theorem aEX {tA tB:TT} {σ:St} {Q:Bool->Hp->Prop} (hA:∀ R:Bool->Hp->Prop,(∀ b,R b H)->tA σ H R) (hB:∀ R:Bool->Hp->Prop,(∀ b,R b H)->tB σ H R) (h:∀ b,Q b H):K4 tA tB σ H Q:=by
 refine hA _ λb=>?_
 cases b with
 | false=>exact oH (h false)
 | true=>exact kN (hB _ h)
theorem jN.Fh (e:H t=some (.lst xs)) (b:ba t H H') (n:H0 t≠none) {wd:Wd} (h:jN K D H0 H wd v):jN K D H0 H' wd v :=
 h.keep (x:=t) (a:=t) (b:=t) (λc u h1 _ _=>b c u h1) (NT.lst e) (NT.lst e) (NT.lst e) n n n
section
variable {H3:Hp} {a x sp ap da dh:Addr} {N:Nat} {n:Int}
theorem aGg (J:c9 K H2 t a ns N) (hT:H2 Pt=some (.tab rP)) (Kf:H2 Pl=some (.tab qR)) (iu:1<=n) (gh:n<=6) (es:H2 sp=some (.dK (⟨n,0,[],[],ap,[]⟩:SD).kv)) (ea:H2 ap=some (.dK [])) (mi:sp≠ap) (q:aD H2 H3) (hD:ft K H3 C x (DD.begun n dx da dh)) (wj:H2 da=none) (tj:H2 dh=none) :
  Wn K H3 C t a ns N Pt Pl x sp (DD.begun n dx da dh) ⟨n,0,[],[],ap,[]⟩:=by
 have XR:gu K H2 sp ⟨n,0,[],[],ap,[]⟩:=⟨es,ea,rfl,rfl,λi t l q=>by simp at q,mi⟩
 have XS:jb ⟨n,0,[],[],ap,[]⟩:=⟨iZ iu gh (Jt _) λl hl=>(Qt hl).elim,List.Pairwise.nil,λk hk=>(Qt hk).elim,Zi _,rfl⟩
 have ne:∀ {c d:Addr} {o:HO},H2 c=some o->H2 d=none->d≠c:=λh1 h2 z=>by rw [z,h1] at h2; cases h2
 refine ⟨J.same q,q _ _ hT,q _ _ Kf,⟨hD,aFU iu gh,XR.same q,XS,⟨rfl,rfl,rfl,rfl⟩⟩,?_⟩
 show [da,dh,sp,ap].Nodup
 simp only [Jk,Ql,Qt,or_false,not_or,Wk,and_true,not_false_eq_true]
 exact ⟨⟨hD.ne,ne es wj,ne ea wj⟩,⟨ne es tj,ne ea tj⟩,mi⟩
end
section
variable {c:Nat->Addr}
def G5 (K:Rb) (Pt Pl:Addr):Sp:=λvs H Q _=>∃ (a:Addr) (ns:List Int),vs = [.ref a]/\au K H a (ns.map V.int)/\H Pt=some (.tab rP)/\H Pl=some (.tab qR)/\∀ H',H' Pt=some (.tab rP)->H' Pl=some (.tab qR)->Q (.bl true) H'
theorem kE:af ["script", "jar", "bad", "k", "state", "full", "dealing", "turn", "deed", "ahead", "due", "found"] ["script"] (aI GS):=.of
set_option maxHeartbeats 4000000 in
theorem aHt {fN fU fV fG:Addr} {dI dN dK dU dV dG:FuncData} (G:Fn K mg "law" GS ["script"] f fd) (T:Dc K C) (B:Bl mg) (MK:Mk K C fI) (Cw:mg "Dealing" = some (.ref C)) (j6:Fn K mg "_law_e_scoop" kQ ["jar", "many"] fS dS) (j5:ae P w K mg base ao 2 fS dS ["jar", "many"] (jM K)) (Wx:Fn K mg "_law_e_begun" yS ["hands"] fB dB) (VY:ae P w K mg base ao 1 fB dB ["hands"] zJ) (L9:Mt K C "__init__" uT ["self", "hands"] fI dI) (Eu:ae P w K mg base ao 3 fI dI ["self", "hands"] (SG K C)) (MA:Fn K mg "_law_e_deed" xE ["jar", "state"] fD dD) (LY:ae P w K mg base ao 4 fD dD ["jar", "state"] (LD K)) (yn:Fn K mg "_law_e_do" ze ["dealing", "deed"] fO dO) (Bu:ae P w K mg base ao 4 fO dO ["dealing", "deed"] (GV K C Pt)) (Bz:Fn K mg "_law_e_step" rK ["state", "deed"] fT dT) (Bs:ae P w K mg base ao 1 fT dT ["state", "deed"] (vM K)) (Hm:Fn K mg "_law_e_asked" uZ ["jar", "dealing"] fA dA) (Hi:ae P w K mg base ao 11 fA dA ["jar", "dealing"] (zL K C Pl)) (L8:Fn K mg "_law_e_stands" lV ["found", "state"] fN dN) (LQ:ae P w K mg base ao 3 fN dN ["found", "state"] (vR K)) (Hl:Fn K mg "_law_e_word" uR ["dealing", "deed"] fW dW) (He:ae P w K mg base ao 5 fW dW ["dealing", "deed"] (zP K C)) (GEl:Fn K mg "_law_e_are_levels" lU ["state", "where", "heights"] fL dL) (OEl:ae P w K mg base ao 2 fL dL ["state", "where", "heights"] (vP K)) (GRf:Fn K mg "_law_e_refused" lD ["jar", "state"] fR dR) (ORf:ae P w K mg base ao 5 fR dR ["jar", "state"] (rW K C)) (V_:Fn K mg "_law_e_kept" Eh ["found"] fK dK) (VU:ae P w K mg base ao 1 fK dK ["found"] Lx) (GFu:Fn K mg "_law_e_full" G2 ["jar", "state", "dealing"] fU dU) (OFu:ae P w K mg base ao 5 fU dU ["jar", "state", "dealing"] (LB K C Pt Pl)) (GFa:Fn K mg "_law_e_full_again" uS ["jar", "state", "dealing"] fV dV) (OFa:ae P w K mg base ao 13 fV dV ["jar", "state", "dealing"] (TQ K C Pt Pl)) (GGb:Fn K mg "_law_e_good_behind" pF ["jar", "dealing", "state"] fG dG) (OGb:ae P w K mg base ao 13 fG dG ["jar", "dealing", "state"] (TH K C Pt Pl)):ae P w K mg base ao 14 f fd ["script"] (G5 K Pt Pl):=by
 refine G.fn.oK kE λbg A outer s H vs Q E hr h=>?_
 ·obtain ⟨a,ns,rfl,ha,hT,Kf,k⟩:=h
  have hu:=bU hr
  have N9:aj 13 _:=hr
  have FK:aj 11 _:=hr.mono (by decide)
  have r5:aj 5 _:=hr.mono (by decide)
  have r4:aj 4 _:=hr.mono (by decide)
  have r3:aj 3 _:=hr.mono (by decide)
  have r2:aj 2 _:=hr.mono (by decide)
  have r1:aj 1 _:=hr.mono (by decide)
  have vk:(A.deeper (PyProof.Rows.envOfC "law" (aI GS) s.heap.objs.size f bg)).units+100 < cLine:=by have:=r1.un; omega
  refine gp.ex (aM (cO (i:=1) kE.nd rfl (Or.inl rfl) (eJ (aG ⟨(pv 0)⟩ (aG cZ (aG cZ bD aO) aO) yE)))
   (aM (mX PassesOwn.never rfl (eJ (aG cZ (aG cZ (aG ⟨(pR lP aH)⟩ (aG eY (aG eY (aG sT (aG cG (aG (cN (aG cZ bD aO)) (aG (eJ (aG cZ bD aO)) (aG ⟨(aY xT aH aH)⟩ (aG ⟨jX⟩ bD UO) jH) yD) eF) aO) aO) aO) aO) Lh) aO) aO)) (aV (i:=2) kE.nd rfl (Or.inl rfl)) (bE (fX (aP oJ (aW Hl He r5 rfl (aA oS (aA (pv 2) aC))) aK (aU _)) (bE (gO eY)) cY)) (λ_=>rfl))
   (aM (oE PassesOwn.never rfl (dZ rfl B.range (aA aH aC)) (aV (i:=3) kE.nd rfl (Or.inl rfl)) (aM (fX (PW.pt (mL (aP mM (pv 3) aH (aU _)) (lN (aP G7 (bM cM (pv 1) aH (λ_ _=>rfl)) (aL bB rfl B.len eP (aA (pv 0) aC)) (aU _))))) (bE ⟨aDi⟩) cY)
   (aM (cO (i:=4) kE.nd rfl (Or.inl rfl) ⟨(aW Wx VY r1 rfl (aA (aY eD aH (aW j6 j5 r2 rfl (aA (pv 1) (aA aH aC)))) aC))⟩)
   (aM (cO (i:=5) kE.nd rfl (Or.inl rfl) ⟨(oV (gN dX (pv 3) aH (aU _)) (oU (gN dX (aW j6 j5 r2 rfl (aA (pv 1) (aA aH aC))) aH (aU _))))⟩)
   (aM (fX (PW.pt (mL (bL (pv 5)) (lN (aP dX (aW j6 j5 r2 rfl (aA (pv 1) (aA aH aC))) aH (aU _))))) (bE (cO (i:=4) kE.nd rfl (Or.inl rfl) ⟨(aW Wx VY r1 rfl (aA aH aC))⟩)) cY)
   (aM (cO (i:=6) kE.nd rfl (Or.inl rfl) ⟨(aE9 MK Eu r4 rfl Cw L9.bd .nil gH (aA (aQ (bU hr) (pv 4) aK (λ_ _=>rfl)) aC))⟩)
   (aM (fX (bL (pv 5)) (bE ⟨(cK (aW GFu OFu r5 rfl (aA (pv 1) (aA (pv 4) (aA (pv 6) aC)))))⟩) cY)
   (aM (oE PassesOwn.never rfl (dZ rfl B.range (aA (aY hX (aW j6 j5 r2 rfl (aA (pv 1) (aA aH aC))) (cR wN rfl B.int Ei (aA (gN mM (pv 3) aH (aU _)) aC))) aC)) (aV (i:=7) kE.nd rfl (Or.inl rfl)) (aM (cO (i:=8) kE.nd rfl (Or.inl rfl) ⟨(aW MA LY r4 rfl (aA (pv 1) (aA (pv 4) aC)))⟩)
   (aM ⟨(cK (aW Bz Bs r1 rfl (aA (pv 4) (aA (pv 8) aC))))⟩
   (bE ⟨(cK (aW yn Bu r4 rfl (aA (pv 6) (aA (pv 8) aC))))⟩))) (λ_=>rfl))
   (aM (cO (i:=9) kE.nd rfl (Or.inl rfl) ⟨(aW Hm Hi FK rfl (aA (pv 1) (aA (pv 6) aC)))⟩)
   (aM (fX (bV (bL (aW L8 LQ r3 rfl (aA (pv 9) (aA (pv 4) aC))))) (bE (gO eY)) cY)
   (aM (oE PassesOwn.never rfl (hU (aW GRf ORf r5 rfl (aA (pv 1) (aA (pv 4) aC)))) (oW rfl (dJ (aV (i:=8) kE.nd rfl (Or.inl rfl)) (dJ (aV (i:=10) kE.nd rfl (Or.inl rfl)) lO))) (aM (oE PassesOwn.never rfl (dZ rfl B.range (aA aH aC)) (aV (i:=7) kE.nd rfl (Or.inl rfl)) (bE (fX (aP oJ (aW Hl He r5 rfl (aA (pv 6) (aA (pv 8) aC))) (pv 10) (aU _)) (bE (gO eY)) cY)) (λ_=>rfl))
   (aM (cO (i:=11) kE.nd rfl (Or.inl rfl) ⟨(aW Hm Hi FK rfl (aA (pv 1) (aA (pv 6) aC)))⟩)
   (aM (fX (aP (aA0 (K:=K) rfl vk) (aW V_ VU r1 rfl (aA (pv 11) aC)) (aW V_ VU r1 rfl (aA (pv 9) aC)) (aU _)) (bE (gO eY)) cY)
   (bE (fX (bV (bL (aW GEl OEl r2 rfl (aA (pv 4) (aA (aQ (bU hr) (pv 11) aK (λ_ _=>rfl)) (aA (aQ (bU hr) (pv 11) aK (λ_ _=>rfl)) aC)))))) (bE (gO eY)) cY))))) (λ_=>rfl))
   (aM (fX (PW.pt (mL (bL (pv 5)) (lN (bV (bL (aW GFa OFa N9 rfl (aA (pv 1) (aA (pv 4) (aA (pv 6) aC))))))))) (bE (gO eY)) cY)
   (bE (fX (bV (bL (aW GGb OGb N9 rfl (aA (pv 1) (aA (pv 6) (aA (pv 4) aC)))))) (bE (gO eY)) cY))))))))))))) (λ_=>rfl))
   (bE (gO eY))))) ?_
  refine gM ⟨_,rfl,js 3 (by decide) |> Jh,λt ht=>?_⟩
  have q1:=aD.new (o:=.lst [.ref a,.int 0,.int 0]) ht
  have J1:c9 K (upd H t (.lst [.ref a,.int 0,.int 0])) t a ns 0:=⟨⟨0,0,Zi _,Zi _,aB⟩,q1.jm ha⟩
  have Pk:=q1 _ _ hT
  have Fb:=q1 _ _ Kf
  generalize upd H t (.lst [.ref a,.int 0,.int 0])=H1 at q1 J1 Pk Fb ⊢
  have fx:Fx [t] H1:=λb hb=>by rw [Qx.mp hb]; exact J1.lst
  refine pP (qY (tJ (K:=K) (R:=λd=>eK d=false) (S:=[t]) (n:=11) fx (aT (ED.dep dF rfl) (aT (ED.dep dF rfl) (aT (ED.dep (Ee (g:=λi=>-i) dF) rfl) (aT (ED.dep sL rfl) (aT (ED.dep sL rfl) (aT (ED.dep zR rfl) (aT (ED.dep vU rfl) (aT (ED.dep (iU (cD dF eL)) rfl) (aT (ED.dep (zS (cD dF eL)) rfl)
   (aT (λH s f Q k=>⟨10,20,rfl,rfl,⟨by decide,by decide,by decide⟩,k _ _ (aD.refl _) ⟨.int _,cF.mpr rfl,by decide +kernel⟩⟩) (aT (ED.dep TL rfl) mC))))))))))) λlp xs H2 s2 fv OF hx=>?_))
  have s3:=s2.trans (aD.new (o:=.lst xs) fv)
  have I_:∀ y∈xs,jd K (λd=>eK d=false) [t] (upd H2 lp (.lst xs)) y:=λy h=>(hx y h).keep (Vw.same (aD.new fv))
  have e3:upd H2 lp (.lst xs) lp=some (.lst xs):=aB
  have J3:=J1.same s3
  have Kg:=s3 _ _ Pk
  have B3:=s3 _ _ Fb
  generalize upd H2 lp (.lst xs)=H3 at s3 I_ e3 J3 Kg B3 ⊢
  refine ⟨lp,rfl,⟨_,au.of e3⟩,jB (K:=K) (a:=lp) (xs:=xs) (λi σ H'=>(∃ v2,σ = [some (.ref a),some (.ref t),v2,none,none,none,none,none,none,none,none,none])/\aD H3 H') ⟨⟨none,rfl⟩,aD.refl _⟩ (λi σ H' _ h=>au.of (h.2 _ _ e3)) ?_ ?_⟩
  ·rintro i z σ H' hz ⟨⟨v2,rfl⟩,s'⟩
   obtain ⟨d,hd,hb⟩:=I_ z (Qe hz)
   dsimp only [bN]
   refine ⟨_,rfl,.br,z,0, "book",rfl,by decide,rfl,.inl ⟨rfl,rfl,d,s'.den _ _ (Vw.sub.den _ _ hd),hb⟩,λL6 AI=>⟨rfl,_,rfl,bJ (by simp) ⟨⟨_,rfl⟩,s'.trans AI⟩⟩⟩
  rintro σ H4 ⟨⟨v2,rfl⟩,s4⟩
  have J4:=J3.same s4
  have Pj:=s4 _ _ Kg
  have E_:=s4 _ _ B3
  dsimp only
  refine pP ⟨3,rfl,by decide,by decide,iO (lo:=0) (n:=3) (λi σ H'=>(∃ v2 v3 v4 v5 v6 v7 v8 v9 v10 v11,σ = [some (.ref a),some (.ref t),v2,v3,v4,v5,v6,v7,v8,v9,v10,v11])/\c9 K H' t a ns (100000*i)/\H' Pt=some (.tab rP)/\H' Pl=some (.tab qR)) ⟨⟨_,_,_,_,_,_,_,_,_,_,rfl⟩,J4,Pj,E_⟩ ?_ ?_⟩
  swap
  ·rintro σ H' ⟨_,_,p2,l2⟩
   exact k _ p2 l2
  clear J4 Pj E_ s4 H4 Kg B3 J3 s3 I_ e3 fv
  rintro i σ H2 hi ⟨⟨v2,v3,v4,v5,v6,v7,v8,v9,v10,v11,rfl⟩,J2,p2,l2⟩
  dsimp only [bN]
  obtain ⟨⟨X0,q2,ot,h!,Dv⟩,EY⟩:=id J2
  obtain ⟨N,g?⟩:∃ N,N=100000*i:=⟨_,rfl⟩
  rw [<- g?] at J2
  have hNb:N<=200000:=by omega
  refine iK (λak H'=>ak = [some (.ref a),some (.ref t),v2,some (.int (0+i)),v4,v5,v6,v7,v8,v9,v10,v11]/\H'=H2) (λbO=>?_) ?_
  ·refine aEX (λR hR=>⟨_,rfl,_,_,rfl,rfl,_,rfl,hR _⟩) (λR hR=>⟨_,rfl,t,_,1,.int X0,rfl,rfl,au.of Dv,rfl,_,rfl,a,_,rfl,.inl EY,_,_,rfl,rfl,_,rfl,hR _⟩) (λb=>?_)
   exact gI (λ_=>k _ p2 l2) (λ_=>bO _ _ ⟨rfl,rfl⟩)
  rintro σ H' ⟨rfl,rfl⟩
  clear ot h! Dv EY
  -- the state,full
  refine kC (λak H2=>∃ n sp ap,ak = [some (.ref a),some (.ref t),v2,some (.int (0+i)),some (.ref sp),v5,v6,v7,v8,v9,v10,v11]/\1<=n/\n<=6/\c9 K H2 t a ns (N+1)/\H2 Pt=some (.tab rP)/\H2 Pl=some (.tab qR)/\H2 sp=some (.dK (⟨n,0,[],[],ap,[]⟩:SD).kv)/\H2 ap=some (.dK [])/\sp≠ap) (λN' bO=>?_) ?_
  ·refine ⟨_,rfl,t,a,ns,N,6,rfl,J2,by omega,by decide,by decide,λr H1 r0 r1 b1 J1=>⟨1,r,rfl,rfl,1+r,rfl,λsp ap H2 q2 ns0 na0 mi sg t8=>bO _ _ ⟨1+r,sp,ap,rfl,by omega,by omega,J1.same q2,?_,?_,sg,t8,mi⟩⟩⟩
   ·obtain ⟨_,KA⟩:=J2.lst
    exact q2 _ _ (b1 _ _ (λz=>by rw [z,KA] at p2; cases p2) p2)
   ·obtain ⟨_,KA⟩:=J2.lst
    exact q2 _ _ (b1 _ _ (λz=>by rw [z,KA] at l2; cases l2) l2)
  clear J2 p2 l2
  rintro σ H2 ⟨n,sp,ap,rfl,n1,n6,J2,p2,l2,sg,t8,mi⟩
  have bt:∀ {H2 H3:Hp} {M:Nat} {c:Addr} {u:HO},c9 K H2 t a ns M->ba t H2 H3->H2 c=some u->(∀ xs,u≠.lst xs)->H3 c=some u:=λJ b h n=>b _ _ (λz=>by obtain ⟨_,e⟩:=J.lst; rw [z,e] at h; exact n _ (Option.some.inj h).symm) h
  refine kC (λak H2=>∃ (full:Bool) (n:Int) (sp ap:Addr),ak = [some (.ref a),some (.ref t),v2,some (.int (0+i)),some (.ref sp),some (.bl full),v6,v7,v8,v9,v10,v11]/\(full=true->i=0)/\1<=n/\n<=6/\c9 K H2 t a ns (N+2)/\H2 Pt=some (.tab rP)/\H2 Pl=some (.tab qR)/\H2 sp=some (.dK (⟨n,0,[],[],ap,[]⟩:SD).kv)/\H2 ap=some (.dK [])/\sp≠ap) (λN' bO=>?_) ?_
  ·refine ⟨_,rfl,rfl,decide (V.int (0+i)=V.int 0),rfl,?_⟩
   refine gI (λh=>?_) (λ_=>bO _ _ ⟨false,n,sp,ap,rfl,λz=>(by cases z),n1,n6,J2.more (by omega),p2,l2,sg,t8,mi⟩)
   have h0:i=0:=by
    have:=of_decide_eq_true h
    injection this with this
    omega
   exact ⟨_,rfl,t,a,ns,_,2,rfl,J2,by omega,by decide,by decide,λr H3 _ _ b3 J3=>⟨rfl,bO _ _ ⟨_,n,sp,ap,rfl,λ_=>h0,n1,n6,J3,bt J2 b3 p2 (λ_ z=>by cases z),bt J2 b3 l2 (λ_ z=>by cases z),bt J2 b3 sg (λ_ z=>by cases z),bt J2 b3 t8 (λ_ z=>by cases z),mi⟩⟩⟩
  clear J2 p2 l2 sg t8 mi n1 n6 n sp ap H2
  rintro σ H2 ⟨full,n,sp,ap,rfl,Az,n1,n6,J2,p2,l2,sg,t8,mi⟩
  refine iK (λak H2=>∃ (n:Int) (sp ap:Addr),ak = [some (.ref a),some (.ref t),v2,some (.int (0+i)),some (.ref sp),some (.bl full),v6,v7,v8,v9,v10,v11]/\1<=n/\n<=6/\c9 K H2 t a ns (N+3)/\H2 Pt=some (.tab rP)/\H2 Pl=some (.tab qR)/\H2 sp=some (.dK (⟨n,0,[],[],ap,[]⟩:SD).kv)/\H2 ap=some (.dK [])/\sp≠ap) (λbO=>?_) ?_
  ·refine ⟨_,rfl,full,rfl,gI (λ_=>?_) (λ_=>oH (bO _ _ ⟨n,sp,ap,rfl,n1,n6,J2.more (by omega),p2,l2,sg,t8,mi⟩))⟩
   refine ⟨_,rfl,t,a,ns,_,3,rfl,J2,by omega,by decide,by decide,λr H3 _ _ b3 J3=>⟨rfl,_,rfl,gI (λ_=>?_) (λ_=>bO _ _ ⟨n,sp,ap,rfl,n1,n6,J3,bt J2 b3 p2 (λ_ z=>by cases z),bt J2 b3 l2 (λ_ z=>by cases z),bt J2 b3 sg (λ_ z=>by cases z),bt J2 b3 t8 (λ_ z=>by cases z),mi⟩)⟩⟩
   exact ⟨6,rfl,λNX S! H4 q4 _ _ MF y! C!=>bO _ _ ⟨6,NX,S!,rfl,by decide,by decide,J3.same q4,q4 _ _ (bt J2 b3 p2 (λ_ z=>by cases z)),q4 _ _ (bt J2 b3 l2 (λ_ z=>by cases z)),y!,C!,MF⟩⟩
  clear J2 p2 l2 sg t8 mi n1 n6 n sp ap H2
  rintro σ H2 ⟨n,sp,ap,rfl,n1,n6,J2,p2,l2,sg,t8,mi⟩
  -- the dealing made
  refine kC (λak H3=>∃ x D S,ak = [some (.ref a),some (.ref t),v2,some (.int (0+i)),some (.ref sp),some (.bl full),some (.ref x),v7,v8,v9,v10,v11]/\Wn K H3 C t a ns (N+3) Pt Pl x sp D S/\S.nums = []/\S.bc=0) (λN' bO=>?_) ?_
  ·refine ⟨_,rfl,sp,_,rfl,.inl ⟨_,.inr "hands",.inl sg,rfl,(cS _).symm⟩,λx dx hx DH YH=>?_⟩
   refine ⟨x,dx,n,rfl,aB,n1,n6,λda dh H3 b3 wj tj hD=>⟨rfl,?_⟩⟩
   have q3:aD H2 H3:=λc u hc=>by
    have c1:c≠x:=λz=>by rw [z,hx] at hc; cases hc
    have c2:c≠dx:=λz=>by rw [z,DH] at hc; cases hc
    exact b3 _ _ c1 (by rw [aF c1,aF c2]; exact hc)
   have nn:∀ {d:Addr},(upd (upd H2 dx (.own x)) x (.ins C dx [])) d=none->H2 d=none:=λ{d} hd=>by
    have d1:d≠x:=λz=>by rw [z,aB] at hd; cases hd
    have d2:d≠dx:=λz=>by rw [z,aF YH,aB] at hd; cases hd
    rw [aF d1,aF d2] at hd; exact hd
   exact bO _ _ ⟨x,_,_,rfl,aGg J2 p2 l2 n1 n6 sg t8 mi q3 hD (nn wj) (nn tj),rfl,rfl⟩
  clear J2 p2 l2 sg t8 mi n1 n6 n ap H2
  rintro σ H2 ⟨x,D,S,rfl,W2,S0,d0⟩
  refine iK (λak H3=>ak = [some (.ref a),some (.ref t),v2,some (.int (0+i)),some (.ref sp),some (.bl full),some (.ref x),v7,v8,v9,v10,v11]/\∃ D S,Wn K H3 C t a ns (N+99) Pt Pl x sp D S/\(full=true->S.nums.length=12)/\S.bc<=12) (λbO=>?_) ?_
  ·refine ⟨_,rfl,full,rfl,gI (λ_=>?_) (λhf=>bO _ _ ⟨rfl,D,S,W2.more (by omega),λz=>absurd z hf,by omega⟩)⟩
   exact ⟨_,rfl,_,rfl,_,rfl,t,a,ns,_,x,sp,D,S,rfl,W2,by omega,S0,λD' S' H' h1 _ h3 W'=>bO _ _ ⟨rfl,D',S',W'.more (by omega),λ_=>h1,by omega⟩⟩
  clear W2 S0 d0 D S H2
  rintro σ H2 ⟨rfl,D,S,W2,Gd,d2⟩
  -- drawn deeds
  refine kC (λak H3=>(∃ v7 v8,ak = [some (.ref a),some (.ref t),v2,some (.int (0+i)),some (.ref sp),some (.bl full),some (.ref x),v7,v8,v9,v10,v11])/\∃ D S,Wn K H3 C t a ns (N+1000) Pt Pl x sp D S/\(full=true->S.nums.length=12)/\S.bc<=30) (λN' bO=>?_) ?_
  ·refine ⟨_,rfl,t,a,ns,_,9,rfl,W2.c7,by omega,by decide,by decide,λr H3 r0 r1 b3 J3=>⟨_,rfl,0+(i:Int),0,rfl,rfl,.inr ⟨_,rfl,?_⟩⟩⟩
   have W3:=W2.but b3 J3
   obtain ⟨m,hm⟩:∃ m:Int,m=r*(if decide ((0:Int) < 0+(i:Int))=true then 1 else 0):=⟨_,rfl⟩
   have ZX:0<=m/\m<=8/\(full=true->m=0):=by
    rw [hm]
    split
    ·rename_i h
     have:=of_decide_eq_true h
     refine ⟨by omega,by omega,λz=>?_⟩
     have:=Az z
     omega
    ·refine ⟨by omega,by omega,λ_=>by omega⟩
   refine ⟨r,_,rfl,rfl,.inr (by split <;> decide),m,by rw [hm],by omega,by omega,?_⟩
   refine iO (lo:=0) (n:=m.toNat) (λj ak H3=>(∃ v7 v8,ak = [some (.ref a),some (.ref t),v2,some (.int (0+i)),some (.ref sp),some (.bl full),some (.ref x),v7,v8,v9,v10,v11])/\∃ D S,Wn K H3 C t a ns (N+100+40*j) Pt Pl x sp D S/\(full=true->S.nums.length=12)/\S.bc<=12+j) ⟨⟨_,_,rfl⟩,D,S,W3,Gd,by omega⟩ ?_ ?_
   ·rintro j σ H4 hj ⟨⟨v7,v8,rfl⟩,D,S,W4,_,d4⟩
    dsimp only [bN]
    refine gM ⟨_,rfl,_,rfl,t,a,ns,_,sp,S,rfl,W4.c7,by omega,W4.p.sh,W4.p.sm,λdp e H5 b5 J5 hE DV=>?_⟩
    have W5:=W4.but b5 J5
    refine pP ⟨_,rfl,_,rfl,sp,dp,S,e,rfl,W5.p.sh,W5.p.sm,hE,DV,λH6 b6 d!=>?_⟩
    obtain ⟨Kp,ms,mp⟩:=W5.kz b6
    refine ⟨_,rfl,_,rfl,x,dp,D,S,e,rfl,Kp,W5.p.dm,W5.p.lk,hE.keep b6 ms.nt mp.nt mp.nt,DV,b6.tab ms mp mp W5.pt,λDn H7 b7 da dh zy DQ Dm Q5=>⟨⟨_,_,rfl⟩,Dn,S.step e,(W5.AE b6 d! b7 da dh zy DQ Dm DV).more (by omega),λz=>?_,?_⟩⟩
    ·have:=ZX.2.2 z
     omega
    ·cases e <;> (try simp only [SD.step]) <;> omega
   ·rintro σ H4 ⟨⟨v7,v8,rfl⟩,D,S,W4,h4,d4⟩
    exact bO _ _ ⟨⟨_,_,rfl⟩,D,S,W4.more (by omega),h4,by omega⟩
  clear W2 Gd d2 D S H2 Az
  rintro σ H2 ⟨⟨XC,XB,rfl⟩,D,S,W2,Gd,d2⟩
  -- asked
  refine gM ⟨_,rfl,_,rfl,t,a,ns,_,x,D,rfl,W2.c7,by omega,W2.p.dh,W2.p.dm,W2.pl,λfp kf H3 b3 J3 nf hf si=>?_⟩
  have W3:=W2.but b3 J3
  refine iK (λak H'=>ak = [some (.ref a),some (.ref t),v2,some (.int (0+i)),some (.ref sp),some (.bl full),some (.ref x),XC,XB,some (.ref fp),v10,v11]/\aD H3 H') (λbO=>?_) ?_
  ·exact ⟨_,rfl,_,rfl,fp,sp,kf,H2,S,D,rfl,hf,si,W3.p.lk,W3.p.dm,W3.p.dh.hl,W3.p.sh,W3.p.sm,by rw [W2.p.sh.ai]; exact λz=>(by cases z),λH5 s5=>⟨true,rfl,bJ rfl (bO _ _ ⟨rfl,s5⟩)⟩⟩
  rintro σ H4 ⟨rfl,s4⟩
  have W4:=W3.same s4
  have JW:=s4 _ _ hf
  have y8:∀ wd:Wd,∃ v,bW kf (.inr wd.str)=some v/\jN K D H2 H4 wd v:=λwd=>let ⟨v,h1,h2⟩:=si wd; ⟨v,h1,h2.same s4⟩
  have Dv:H2 t≠none:=by obtain ⟨_,e⟩:=W2.c7.lst; rw [e]; exact λz=>(by cases z)
  clear hf si s4 W3 J3 b3 H3
  obtain ⟨i9,n1,n6⟩:=W4.i9
  obtain ⟨eN,_,eU,eW⟩:=W4.p.lk
  have Fe:D.hs.length=D.nums.length:=W4.p.dh.hl
  have MB:D.ws.length=D.nums.length:=W4.p.dh.wl
  have M_:D.nums.Nodup:=by rw [eU]; exact W4.p.sm.nd
  obtain ⟨jz,ox⟩:=eZ W4.p.dm.dl
  have zp:∀ g∈D.hs,0<=g/\g < S.n:=λg hg=>by
   obtain ⟨i,hi⟩:=Qv.mp hg
   have hl:=Qb (show i < D.ws.length by rw [<- jz]; exact (Qa.mp hi).1)
   have:=(bA ((aZ W4.p.dm.bk).2.2.2 _ (Qe hl))).2.1 g (ox i _ _ hi hl)
   rw [eN] at this; exact this
  -- what is refused
  refine kC (λak H3=>(∃ v7 v8 v10 v11,ak = [some (.ref a),some (.ref t),v2,some (.int (0+i)),some (.ref sp),some (.bl full),some (.ref x),v7,v8,some (.ref fp),v10,v11])/\Wn K H3 C t a ns (N+5000) Pt Pl x sp D S) (λN' bO=>?_) ?_
  ·refine qY ⟨_,rfl,_,rfl,t,a,ns,_,Pt,Pl,x,sp,D,S,rfl,W4,by omega,by omega,λrl rows H5 HY b5 J5 QX uo Fm=>?_⟩
   have W5:=W4.but b5 J5
   obtain ⟨_,QW⟩:=W4.c7.lst
   have X9:rl≠t:=W4.c7.ne HY
   have Ol:fp≠t:=λz=>by rw [z,QW] at JW; cases JW
   have π:=b5 _ _ Ol JW
   have Nr:∀ wd:Wd,∃ v,bW kf (.inr wd.str)=some v/\jN K D H2 H5 wd v:=λwd=>let ⟨v,h1,h2⟩:=y8 wd; ⟨v,h1,h2.Fh QW b5 Dv⟩
   refine ⟨rl,rfl,⟨_,au.of QX⟩,jB (K:=K) (a:=rl) (xs:=rows) (λj ak H'=>(∃ v7 v8 v10 v11,ak = [some (.ref a),some (.ref t),v2,some (.int (0+i)),some (.ref sp),some (.bl full),some (.ref x),v7,v8,some (.ref fp),v10,v11])/\Wn K H' C t a ns (N+2000+5*j) Pt Pl x sp D S/\H' rl=some (.lst rows)/\(∀ y∈rows,wK K D [rl,t] H' y)/\H' fp=some (.dK kf)/\∀ wd:Wd,∃ v,bW kf (.inr wd.str)=some v/\jN K D H2 H' wd v) ⟨⟨_,_,_,_,rfl⟩,W5.more (by omega),QX,Fm,π,Nr⟩ (λ_ _ _ _ h=>au.of h.2.2.1) ?_ ?_⟩
   ·rintro j y σ H6 hy ⟨⟨w7,w8,Hv,C4,rfl⟩,W6,z!,OT,ο,Nq⟩
    have hj:=(Qa.mp hy).1
    obtain ⟨r,dp,jj,tw,rfl,j9,M5,ZE,Ng⟩:=OT y (Qe hy)
    refine ⟨r,_,rfl,Vw.sub.ah j9,rfl,_,_,rfl,_,_,rfl,rfl,?_⟩
    dsimp only [bN]
    refine kC (λak H'=>(∃ v7,ak = [some (.ref a),some (.ref t),v2,some (.int (0+i)),some (.ref sp),some (.bl full),some (.ref x),v7,some (.ref dp),some (.ref fp),some (.str tw),C4])/\aD H6 H') (λN' bO=>?_) ?_
    ·refine ⟨2,rfl,by decide,by decide,iO (lo:=0) (n:=2) (λ_ ak H'=>(∃ v7,ak = [some (.ref a),some (.ref t),v2,some (.int (0+i)),some (.ref sp),some (.bl full),some (.ref x),v7,some (.ref dp),some (.ref fp),some (.str tw),C4])/\aD H6 H') ⟨⟨_,rfl⟩,aD.refl _⟩ ?_ (λak H' h=>bO _ _ h)⟩
     rintro _ ak H7 _ ⟨⟨v7,rfl⟩,s7⟩
     dsimp only [bN]
     refine ⟨_,rfl,_,rfl,.ref x,.ref dp,jj,tw,rfl,M5,ZE,.inr ⟨x,dp,D,rfl,rfl,W6.p.dh.same s7,by rw [eU]; exact i9,(Ng.same Vw.sub).same s7⟩,λH8 s8=>⟨_,rfl,rfl,_,rfl,bJ (by simp) ⟨⟨_,rfl⟩,s7.trans s8⟩⟩⟩
    rintro ak H7 ⟨⟨v7,rfl⟩,s7⟩
    have W7:=W6.same s7
    obtain ⟨_,GA⟩:=W7.c7.lst
    refine gM ⟨_,rfl,_,rfl,t,a,ns,_,x,D,rfl,W7.c7,by omega,W7.p.dh,W7.p.dm,W7.pl,λfq kq H8 b8 J8 nq hq y6=>?_⟩
    have W8:=W7.but b8 J8
    have O4:=b8 _ _ Ol (s7 _ _ ο)
    have y?:=b8 _ _ X9 (s7 _ _ z!)
    have ZK:∀ y∈rows,wK K D [rl,t] H8 y:=λy h=>(OT y h).keep ((Vw.same s7).trans (ba.vw b8 (by simp)))
    have B9:∀ wd:Wd,∃ v,bW kf (.inr wd.str)=some v/\jN K D H2 H8 wd v:=λwd=>let ⟨v,h1,h2⟩:=Nq wd; ⟨v,h1,(h2.same s7).Fh GA b8 Dv⟩
    refine iK (λak H'=>ak = [some (.ref a),some (.ref t),v2,some (.int (0+i)),some (.ref sp),some (.bl full),some (.ref x),v7,some (.ref dp),some (.ref fp),some (.str tw),some (.ref fq)]/\aD H8 H') (λbO=>?_) ?_
    ·refine ⟨_,rfl,fq,kq,rfl,hq,λwd=>let ⟨v,h1,_⟩:=y6 wd; ⟨v,h1⟩,λl1 WU H9 s9 _ e1 g1=>?_⟩
     refine ⟨_,rfl,fp,kf,rfl,s9 _ _ O4,λwd=>let ⟨v,h1,_⟩:=B9 wd; ⟨v,h1⟩,λl2 NG Ha sa _ e2 g2=>?_⟩
     refine ⟨l1,l2,WU,NG,rfl,rfl,au.of (sa _ _ e1),au.of e2,by rw [g1.1,g2.1],λm v u hv hu=>?_,_,rfl,bJ rfl (bO _ _ ⟨rfl,s9.trans sa⟩)⟩
     have ZW:m < 4:=by rw [<- g1.1]; exact (Qa.mp hv).1
     obtain ⟨wd,zl⟩:∃ wd,AQ[m]?=some wd:=⟨_,Qb (show m < AQ.length from ZW)⟩
     have nl:wd≠.levels:=λz=>by
      have:=Qe zl
      rw [z] at this
      revert this
      decide
     obtain ⟨v',h1,h2⟩:=y6 wd
     obtain ⟨u',h3,h4⟩:=B9 wd
     have ev:=g1.2 m wd v zl hv
     have eu:=g2.2 m wd u zl hu
     rw [h1] at ev
     rw [h3] at eu
     cases ev
     cases eu
     exact aES M_ Fe MB nl (h2.same (s9.trans sa)) (h4.same (s9.trans sa))
    rintro ak H9 ⟨rfl,s9⟩
    have W9:=W8.same s9
    obtain ⟨_,ad,wp,rfl,Gu,Ds⟩:=y6 .i7
    obtain ⟨_,av,vp,lv,rfl,JB,DR⟩:=y6 .levels
    rw [eU] at Ds
    rw [eN,eW] at DR
    have zj:wp≠S.ap:=λz=>by rw [z,W7.p.sh.ai] at Gu; cases Gu
    refine ⟨_,rfl,_,rfl,fq,_,rfl,.inl ⟨kq,.inr "deal",.inl (s9 _ _ hq),rfl,ad.symm⟩,_,rfl,fq,_,rfl,.inl ⟨kq,.inr "levels",.inl (s9 _ _ hq),rfl,av.symm⟩,sp,wp,vp,S,D.hs,lv,rfl,W9.p.sh,W9.p.sm,⟨s9 _ _ Ds,by rw [Fe,eU],zp⟩,zj,s9.ah JB,DR,λHa sa=>⟨true,rfl,bJ rfl ⟨⟨_,_,_,_,rfl⟩,(W9.same sa).more (by omega),sa _ _ (s9 _ _ y?),λy h=>(ZK y h).keep (Vw.same (s9.trans sa)),sa _ _ (s9 _ _ O4),λwd=>let ⟨v,h1,h2⟩:=B9 wd; ⟨v,h1,h2.same (s9.trans sa)⟩⟩⟩⟩
   ·rintro σ H6 ⟨⟨w7,w8,Hv,C4,rfl⟩,W6,_⟩
    exact bO _ _ ⟨⟨_,_,_,_,rfl⟩,W6.more (by omega)⟩
  rintro σ H5 ⟨⟨w7,w8,Hv,C4,rfl⟩,W5⟩
  refine iK (λak H'=>ak = [some (.ref a),some (.ref t),v2,some (.int (0+i)),some (.ref sp),some (.bl full),some (.ref x),w7,w8,some (.ref fp),Hv,C4]/\∃ D S,Wn K H' C t a ns (N+5060) Pt Pl x sp D S) (λbO=>?_) ?_
  ·refine ⟨_,rfl,full,rfl,gI (λhf=>?_) (λ_=>oH (bO _ _ ⟨rfl,D,S,W5.more (by omega)⟩))⟩
   exact ⟨_,rfl,_,rfl,_,rfl,t,a,ns,_,x,sp,D,S,rfl,W5,by omega,Gd hf,λD' S' H' W'=>⟨true,rfl,bJ rfl (bO _ _ ⟨rfl,D',S',W'.more (by omega)⟩)⟩⟩
  rintro σ H6 ⟨rfl,D',S',W6⟩
  exact ⟨_,rfl,_,rfl,_,rfl,t,a,ns,_,x,sp,D',S',rfl,W6,by omega,λD2 S2 H7 W7=>⟨true,rfl,bJ rfl ⟨⟨_,_,_,_,_,_,_,_,_,_,rfl⟩,W7.c7.more (by omega),W7.pt,W7.pl⟩⟩⟩
end
end Ab
namespace Ab
open PySem L2 PyProof.Rows
theorem aIe (X:K.In h) (G:h.Ns mainGlobals mg) {x:Str} {kV:Value} (hb:∀ (kV doc pm:Value) (an:Option Addr) (bg ct:Value) (us:List Value),us.length=ps.length->bindArgs (Tg x x (iX st) (eX st) (aI st) .none kV doc pm an bg ct) ⟨us,[]⟩=pure (ps.zip us)) (a:Rg K mainGlobals x=some (some (.ref f))) (l:K.lookup f=some ⟨oc,od,.func (Tg x x (iX st) (eX st) (aI st) .none kV doc pm an bg ct),qx⟩) (c:Uc K bg x=true) (k:Tc K (.ref f)=true) :
  ∃ f fd,Fn K mg x st ps f fd:=by
 have F:=Lw (st:=st) l c k
 exact ⟨f,_,F,Rv X G a,k,F.binds hb⟩
theorem SK (X:K.In h) (G:h.Ns mainGlobals mg) {x:Str} {kV:Value} (hb:∀ (kV doc pm:Value) (an:Option Addr) (bg ct:Value) (us:List Value),us.length=ps.length->bindArgs (Tg x x (iX st) (eX st) (aI st) .none kV doc pm an bg ct) ⟨us,[]⟩=pure (ps.zip us)) (a:Rg K mainGlobals x=some (some (.ref f))) (l:K.lookup f=some ⟨oc,od,.func (Tg x x (iX st) (eX st) (aI st) .none kV doc pm an bg ct),qx⟩) (c:Uc K bg x=true) (k:Tc K (.ref f)=true) :
  ∃ f fd,Fn K mg x st ps f fd/\fd.code=bg:=by
 have F:=Lw (st:=st) l c k
 exact ⟨f,_,⟨F,Rv X G a,k,F.binds hb⟩,rfl⟩
theorem aIf (X:K.In h) (G:h.Ns mainGlobals mg) {t6 HE:Tok} (z0:Rg K mainGlobals "isinstance" = some none) (z1:Rg K mainGlobals "int" = some none) (z2:Rg K mainGlobals "bool" = some none) (z3:Rg K mainGlobals "tuple" = some none) (z4:Rg K mainGlobals "list" = some none) (z5:Rg K mainGlobals "len" = some none) (z6:Rg K mainGlobals "all" = some none) (z7:Rg K mainGlobals "zip" = some none) (z8:Rg K mainGlobals "range" = some none) (z9:Rg K mainGlobals "sorted" = some none) (C3:Rg K mainGlobals "set" = some none) (WQ:Rg K mainGlobals "sum" = some none) (WO:Rg K mainGlobals "repr" = some none) (WN:Rg K mainGlobals "enumerate" = some none) (WM:Rg K mainGlobals "min" = some none) (WL:Rg K mainGlobals "any" = some none) (WK:Rg K mainGlobals "dict" = some none) (WJ:Rg K mainGlobals "ValueError" = some none) (zA:Rg K mainGlobals "MOST_HANDS" = some (some (.int 6 t6))) (zB:Rg K mainGlobals "MOST_WORKS" = some (some (.int 12 HE))):Bl mg :=
 ⟨Ri X G z0,Ri X G z1,Ri X G z2,Ri X G z3,Ri X G z4,Ri X G z5,Ri X G z6,Ri X G z7,Ri X G z8,Ri X G z9,Ri X G C3,Ri X G WQ,Ri X G WO,Ri X G WN,Ri X G WM,Ri X G WL,Ri X G WK,Ri X G WJ,⟨_,Rv X G zA⟩,⟨_,Rv X G zB⟩⟩
def RS (K:Rb) (mg:Str->Option Value):Prop:=∃ Cc,Dc K Cc/\mg "Dealing" = some (.ref Cc)/\(∃ f fd,Mk K Cc f/\Mt K Cc "__init__" uT ["self", "hands"] f fd)/\(∃ f fd,Mt K Cc "book_now" uU ["self"] f fd)/\(∃ f fd,Mt K Cc "deal_now" nC ["self"] f fd)/\(∃ f fd,Mt K Cc "count_moved" nD ["self", "many"] f fd)/\(∃ f fd,Mt K Cc "put" Bn ["self", "able"] f fd)/\(∃ f fd,Mt K Cc "take" uV ["self", "number"] f fd)/\(∃ f fd,Mt K Cc "come" uW ["self"] f fd)/\(∃ f fd,Mt K Cc "go" p8 ["self"] f fd)/\(∃ f fd,Mt K Cc "works" pG ["self"] f fd)/\(∃ f fd,Mt K Cc "deal" Eg ["self"] f fd)/\(∃ f fd,Mt K Cc "loads" rH ["self"] f fd)/\(∃ f fd,Mt K Cc "levels" qK ["self"] f fd)/\(∃ f fd,Mt K Cc "moved" uX ["self"] f fd)
theorem aIh {x:Str} {kV:Value} (hb:∀ (kV doc pm:Value) (an:Option Addr) (bg ct:Value) (us:List Value),us.length=ps.length->bindArgs (Tg x (("Dealing." : Str)++x) (iX st) (eX st) (aI st) .none kV doc pm an bg ct) ⟨us,[]⟩=pure (ps.zip us)) (a:Rm K (.ref C) x=some (some (.ref f))) (i:Uy K (.ref f)=true) (l:K.lookup f=some ⟨oc,od,.func (Tg x (("Dealing." : Str)++x) (iX st) (eX st) (aI st) .none kV doc pm an bg ct),qx⟩) (c:Uc K bg (("Dealing." : Str)++x)=true) (k:Tc K (.ref f)=true) :
  ∃ f fd,Mt K C x st ps f fd:=by
 have F:=Lw (st:=st) l c k
 exact ⟨f,_,F,⟨a,i,k⟩,F.binds hb⟩
theorem aIi (X:K.In h) (G:h.Ns mainGlobals mg) {f0:Addr} (cg:Rg K mainGlobals "Dealing" = some (some (.ref C))) (pg:Uh K C Str.empty=true) (hd:Ut K C=true) (po:Vn K C=true) (sa:Rm K (.ref C) "__setattr__" = some (some (.builtin "object.__setattr__"))) (n1:Rm K (.ref C) "many_hands" = some none) (n2:Rm K (.ref C) "able_of" = some none) (n3:Rm K (.ref C) "hand_of" = some none) (n4:Rm K (.ref C) "next_number" = some none) (n5:Rm K (.ref C) "moved_last" = some none) (n6:Rm K (.ref C) "moved_in_all" = some none) (m1:Vt K C=true) (m2:Rm K (.ref C) "__init__" = some (some (.ref f0))) (m3:Uy K (.ref f0)=true) (m4:Tc K (.ref C)=true) (hIn:∃ f fd,Mt K C "__init__" uT ["self", "hands"] f fd) (QD:∃ f fd,Mt K C "book_now" uU ["self"] f fd) (zy:∃ f fd,Mt K C "deal_now" nC ["self"] f fd) (QC:∃ f fd,Mt K C "count_moved" nD ["self", "many"] f fd) (Pw:∃ f fd,Mt K C "put" Bn ["self", "able"] f fd) (Pf:∃ f fd,Mt K C "take" uV ["self", "number"] f fd) (QB:∃ f fd,Mt K C "come" uW ["self"] f fd) (PX:∃ f fd,Mt K C "go" p8 ["self"] f fd) (O_:∃ f fd,Mt K C "works" pG ["self"] f fd) (P8:∃ f fd,Mt K C "deal" Eg ["self"] f fd) (PH:∃ f fd,Mt K C "loads" rH ["self"] f fd) (PJ:∃ f fd,Mt K C "levels" qK ["self"] f fd) (PD:∃ f fd,Mt K C "moved" uX ["self"] f fd):RS K mg:=by
 obtain ⟨f,fd,M⟩:=hIn
 have e:f=f0:=by
  have:=M.me.at_.symm.trans m2
  injection this with this
  injection this with this
  injection this
 subst e
 exact ⟨C,⟨⟨pg,hd,po,sa⟩,n1,n2,n3,n4,n5,n6⟩,Rv X G cg,⟨f,fd,⟨m1,m2,m3,m4⟩,M⟩,QD,zy,QC,Pw,Pf,QB,PX,O_,P8,PH,PJ,PD⟩
theorem aIj (X:K.In h) (G:h.Ns mainGlobals mg) {a0 a1 a2 a3 a4 a5 a6 a7 a8 a9 t9:Addr} (zE:Rg K mainGlobals "DealError" = some (some (.ref cE))) (qE:mv K cE i8=true) (z0:Rg K mainGlobals "NoBook" = some (some (.ref a0))) (q0:mv K a0 (.ref cE::i8)=true) (z1:Rg K mainGlobals "NoCosts" = some (some (.ref a1))) (q1:mv K a1 (.ref cE::i8)=true) (z2:Rg K mainGlobals "NoDeal" = some (some (.ref a2))) (q2:mv K a2 (.ref cE::i8)=true) (z3:Rg K mainGlobals "NoHand" = some (some (.ref a3))) (q3:mv K a3 (.ref cE::i8)=true) (z4:Rg K mainGlobals "NoRooms" = some (some (.ref a4))) (q4:mv K a4 (.ref cE::i8)=true) (z5:Rg K mainGlobals "NoRow" = some (some (.ref a5))) (q5:mv K a5 (.ref cE::i8)=true) (z6:Rg K mainGlobals "NoText" = some (some (.ref a6))) (q6:mv K a6 (.ref cE::i8)=true) (z7:Rg K mainGlobals "NoWay" = some (some (.ref a7))) (q7:mv K a7 (.ref cE::i8)=true) (z8:Rg K mainGlobals "NoWeights" = some (some (.ref a8))) (q8:mv K a8 (.ref cE::i8)=true) (z9:Rg K mainGlobals "NoWork" = some (some (.ref a9))) (q9:mv K a9 (.ref cE::i8)=true) (C3:Rg K mainGlobals "TooMany" = some (some (.ref t9))) (HR:mv K t9 (.ref cE::i8)=true) (nd : [cE,a0,a1,a2,a3,a4,a5,a6,a7,a8,a9,t9].Nodup):∃ cE c,Cl K mg cE c:=by
 have hl:∀ i,i < 11->∃ a,[a0,a1,a2,a3,a4,a5,a6,a7,a8,a9,t9][i]?=some a:=λi hi=>⟨_,Qb (l:=[a0,a1,a2,a3,a4,a5,a6,a7,a8,a9,t9]) (i:=i) hi⟩
 have hc:∀ (i:Nat) (a:Addr),[a0,a1,a2,a3,a4,a5,a6,a7,a8,a9,t9][i]?=some a->(λi:Nat=>([a0,a1,a2,a3,a4,a5,a6,a7,a8,a9,t9][i]?).getD 0) i=a:=λi a e=>by show ([a0,a1,a2,a3,a4,a5,a6,a7,a8,a9,t9][i]?).getD 0=a; rw [e]; rfl
 have YI : [a0,a1,a2,a3,a4,a5,a6,a7,a8,a9,t9].Nodup:=(Jk.mp nd).2
 have YF:cE∉[a0,a1,a2,a3,a4,a5,a6,a7,a8,a9,t9]:=(Jk.mp nd).1
 refine ⟨cE,λi=>([a0,a1,a2,a3,a4,a5,a6,a7,a8,a9,t9][i]?).getD 0,⟨λi n e=>?_,λi hi=>?_,λi j hi hj e=>?_,λi hi e=>?_,Rv X G zE,aDN qE⟩⟩
 ·match i,e with
  | 0,e=>injection e with e; subst e; exact Rv X G z0
  | 1,e=>injection e with e; subst e; exact Rv X G z1
  | 2,e=>injection e with e; subst e; exact Rv X G z2
  | 3,e=>injection e with e; subst e; exact Rv X G z3
  | 4,e=>injection e with e; subst e; exact Rv X G z4
  | 5,e=>injection e with e; subst e; exact Rv X G z5
  | 6,e=>injection e with e; subst e; exact Rv X G z6
  | 7,e=>injection e with e; subst e; exact Rv X G z7
  | 8,e=>injection e with e; subst e; exact Rv X G z8
  | 9,e=>injection e with e; subst e; exact Rv X G z9
  | 10,e=>injection e with e; subst e; exact Rv X G C3
  | n+11,e=>exact absurd (Qa.mp e).1 (by show ¬ n+11 < 11; omega)
 ·match i,hi with
  | 0,_=>exact iD qE q0
  | 1,_=>exact iD qE q1
  | 2,_=>exact iD qE q2
  | 3,_=>exact iD qE q3
  | 4,_=>exact iD qE q4
  | 5,_=>exact iD qE q5
  | 6,_=>exact iD qE q6
  | 7,_=>exact iD qE q7
  | 8,_=>exact iD qE q8
  | 9,_=>exact iD qE q9
  | 10,_=>exact iD qE HR
  | n+11,hi=>omega
 ·obtain ⟨a,ea⟩:=hl i hi
  obtain ⟨b,eb⟩:=hl j hj
  have e':a=b:=(hc i a ea).symm.trans (e.trans (hc j b eb))
  subst e'
  have wg:i < [a0,a1,a2,a3,a4,a5,a6,a7,a8,a9,t9].length:=hi
  exact (Ys wg YI).mp (ea.trans eb.symm)
 ·obtain ⟨a,ea⟩:=hl i hi
  have e':a=cE:=(hc i a ea).symm.trans e
  subst e'
  exact YF (Qe ea)
theorem aGh {l:Vu} {fa c2 oh:Addr} (ξ:mg "law" = some (.ref fa)) (B:Bl mg) (k?:∃ cE c,Cl K mg cE c) (k!:RS K mg) (Ki:∃ f fd,Fn K mg "steps_to_least" lF ["book", "deal", "able", "measures"] f fd/\fd.code=.ref c) (hZ:∀ base:Heap,base.BuiltinsAt mg Pt->Lm K mg base c Pt) (Kn:∃ f fd,Fn K mg "levels_or_way" GO ["book", "deal"] f fd/\fd.code=.ref c2) (b?:∀ base:Heap,base.BuiltinsAt mg oh->Lm K mg base c2 oh) (hW:∃ f fd,Fn K mg "is_whole" lT ["thing"] f fd) (hH:∃ f fd,Fn K mg "are_hands" pH ["thing"] f fd) (PL:∃ f fd,Fn K mg "is_work" pI ["hands", "thing"] f fd) (QE:∃ f fd,Fn K mg "is_book" uY ["thing"] f fd) (P9:∃ f fd,Fn K mg "is_deal" yQ ["book", "thing"] f fd) (Pz:∃ f fd,Fn K mg "need_book" Ln ["book"] f fd) (Py:∃ f fd,Fn K mg "need_deal" Ll ["book", "deal"] f fd) (hC:∃ f fd,Fn K mg "counted" jY ["hands", "deal"] f fd) (hL:∃ f fd,Fn K mg "loads" Lk ["book", "deal"] f fd) (Bc:∃ f fd,Fn K mg "handing" jZ ["book", "deal"] f fd) (Pq:∃ f fd,Fn K mg "reached" lE ["rows", "first"] f fd) (Pa:∃ f fd,Fn K mg "way_to" rJ ["found", "last"] f fd) (Pg:∃ f fd,Fn K mg "steps_of_take" qL ["book", "deal", "work"] f fd) (Pc:∃ f fd,Fn K mg "_law_e_whirl" yR ["cell", "at"] f fd) (Pn:∃ f fd,Fn K mg "_law_e_scoop" kQ ["jar", "many"] f fd) (QK:∃ f fd,Fn K mg "_law_e_able" qM ["jar", "hands"] f fd) (QA:∃ f fd,Fn K mg "_law_e_deed" xE ["jar", "state"] f fd) (P5:∃ f fd,Fn K mg "_law_e_step" rK ["state", "deed"] f fd) (QF:∃ f fd,Fn K mg "_law_e_begun" yS ["hands"] f fd) (P':∃ f fd,Fn K mg "_law_e_do" ze ["dealing", "deed"] f fd) (Pb:∃ f fd,Fn K mg "_law_e_whole_in" jD ["some"] f fd) (PU:∃ f fd,Fn K mg "_law_e_heaps" qN ["state", "where"] f fd) (PR:∃ f fd,Fn K mg "_law_e_is_deal" nE ["state", "where"] f fd) (QH:∃ f fd,Fn K mg "_law_e_are_levels" lU ["state", "where", "heights"] f fd) (QI:∃ f fd,Fn K mg "_law_e_ask" GU ["dealing", "word"] f fd) (QG:∃ f fd,Fn K mg "_law_e_asked" uZ ["jar", "dealing"] f fd) (Pm:∃ f fd,Fn K mg "_law_e_stands" lV ["found", "state"] f fd) (PN:∃ f fd,Fn K mg "_law_e_kind" G3 ["caught"] f fd) (Pd:∃ f fd,Fn K mg "_law_e_word" uR ["dealing", "deed"] f fd) (Px:∃ f fd,Fn K mg "_law_e_no_works" qJ ["jar", "hands"] f fd) (Pp:∃ f fd,Fn K mg "_law_e_refused" lD ["jar", "state"] f fd) (Gm:∃ f fd,Fn K mg "_law_e_kept" Eh ["found"] f fd) (QJ:∃ f fd,Fn K mg "_law_e_all_done" nB ["jar", "dealing", "state", "deeds"] f fd) (PY:∃ f fd,Fn K mg "_law_e_good_behind" pF ["jar", "dealing", "state"] f fd) (PZ:∃ f fd,Fn K mg "_law_e_full" G2 ["jar", "state", "dealing"] f fd) (P0:∃ f fd,Fn K mg "_law_e_full_again" uS ["jar", "state", "dealing"] f fd) (PK:∃ f fd,Fn K mg "law" GS ["script"] f fd)
  : ∃ fd:FuncData,(∀ (s:Shared) (v:Value),BindsTo s fd ⟨[v],[]⟩ [("script",v)])/\∀ base:Heap,K.In base->base.Ns mainGlobals mg->base.BuiltinsAt mg Pt->base.BuiltinsAt mg oh->ae l.prog w K mg base ao 14 fa fd ["script"] (G5 K Pt oh):=by
 obtain ⟨q!,H!,ST,hc⟩:=Ki
 obtain ⟨r?,J!,LO,wo⟩:=Kn
 obtain ⟨fW,dW,W⟩:=hW
 obtain ⟨fH,dH,H⟩:=hH
 obtain ⟨QU,RE,Kw⟩:=PL
 obtain ⟨v?,M?,BP⟩:=QE
 obtain ⟨v!,M!,DP⟩:=P9
 obtain ⟨uz,u4,NB⟩:=Pz
 obtain ⟨uy,u3,ND⟩:=Py
 obtain ⟨fC,dC,C⟩:=hC
 obtain ⟨fL,dL,L⟩:=hL
 obtain ⟨fHD,dHD,HD⟩:=Bc
 obtain ⟨fRC,dRC,RC⟩:=Pq
 obtain ⟨fWT,dWT,WT⟩:=Pa
 obtain ⟨p?,G?,TK⟩:=Pg
 obtain ⟨fWH,dWH,WH⟩:=Pc
 obtain ⟨q?,H?,SC⟩:=Pn
 obtain ⟨fAB,dAB,AB⟩:=QK
 obtain ⟨fDD,dDD,DD⟩:=QA
 obtain ⟨u?,L?,EP⟩:=P5
 obtain ⟨w!,N!,BE⟩:=QF
 obtain ⟨fDO,dDO,DO⟩:=P'
 obtain ⟨p!,G!,WI⟩:=Pb
 obtain ⟨t?,K?,HP⟩:=PU
 obtain ⟨fID,dID,ID⟩:=PR
 obtain ⟨fAL,dAL,AL⟩:=QH
 obtain ⟨fAK,dAK,AK⟩:=QI
 obtain ⟨fAS,dAS,AS⟩:=QG
 obtain ⟨fSD,dSD,SD⟩:=Pm
 obtain ⟨t!,K!,KI⟩:=PN
 obtain ⟨fWD,dWD,WD⟩:=Pd
 obtain ⟨fNW,dNW,NW⟩:=Px
 obtain ⟨r!,I!,RF⟩:=Pp
 obtain ⟨s?,J?,KP⟩:=Gm
 obtain ⟨fAD,dAD,AD⟩:=QJ
 obtain ⟨fGB,dGB,GB⟩:=PY
 obtain ⟨u!,L!,FU⟩:=PZ
 obtain ⟨fFA,dFA,FA⟩:=P0
 obtain ⟨fLW,I?,LW⟩:=PK
 obtain ⟨Cc,T,Cw,⟨fIn,dIn,MK,FY⟩,⟨z_,Ad,F1⟩,⟨zz,Ac,Dk⟩,⟨Bi,Bm,Dl⟩,⟨CN,CU,FW⟩,⟨CM,CT,FV⟩,⟨Bh,Bk,FZ⟩,⟨Bg,Bj,p8⟩,⟨Gw,GI,Ou⟩,⟨Gy,GL,Ox⟩,⟨Kv,KO,IL⟩,⟨Kx,KQ,Ow⟩,⟨Gx,GJ,Ov⟩⟩:=k!
 have e:=ξ.symm.trans LW.IK
 cases e
 have R:Pr K mg fW fH QU v? uz v! uy fL dW dH RE M? u4 M! u3 dL:=⟨W,H,Kw,BP,NB,DP,ND,⟨fC,dC,C⟩,L⟩
 refine ⟨I?,λs v=>?_,λbase _ _ Ks Nj=>?_⟩
 ·obtain ⟨oc,od,kV,doc,pm,an,bg,ct,qx,rfl,lk,ju⟩:=LW.fn.ex
  exact .of_eq rfl
 ·have Z:=hZ base Ks
  have Z2:=b? base Nj
  have OW:ae l.prog w K mg base ao 1 fW dW ["thing"] (lW K):=qO W B
  have OH:ae l.prog w K mg base ao 2 fH dH ["thing"] (qP K):=VJ H B W
  have VT:ae l.prog w K mg base ao 2 QU RE ["hands", "thing"] (qQ K):=VI Kw B W
  have OC:ae l.prog w K mg base ao 1 fC dC ["hands", "deal"] (lH K):=pJ C B
  have OST:ae l.prog w K mg base ao 2 q! H! ["book", "deal", "able", "measures"] (zF K Pt):=aEi ST hc Z B HD RC WT
  have OLO:ae l.prog w K mg base ao 8 r? J! ["book", "deal"] (K7 K oh):=aHe LO wo Z2 B R HD RC WT
  have OTK:ae l.prog w K mg base ao 2 p? G? ["book", "deal", "work"] (zG K):=aEk TK B C HD RC WT
  have L0:ae l.prog w K mg base ao 1 z_ Ad ["self"] (qT K Cc):=aEn F1 T B
  have Hh:ae l.prog w K mg base ao 1 zz Ac ["self"] (oA K Cc):=aEo Dk T B
  have Am:ae l.prog w K mg base ao 1 Bi Bm ["self", "many"] (oB K Cc):=aEp Dl T
  have Hg:=aC5 IL T Dk Hh C OC
  have Et:=aHh FW T B Kw VT F1 L0 Dk Hh IL Hg ST OST Dl Am
  have Es:=aFQ FV T B W OW F1 L0 Dk Hh TK OTK Dl Am
  have Ex:=aEt FZ T B Dl Am
  have Ew:=aHg p8 T B Dl Am
  have LM:ae l.prog w K mg base ao 1 Gw GI ["self"] (vL K Cc):=aC7 Ou T B
  have LX:ae l.prog w K mg base ao 1 Gy GL ["self"] (zI K Cc):=aEs Ox T B
  have LS:=aBB Ow T F1 L0 Dk Hh LO OLO
  have LR:ae l.prog w K mg base ao 1 Gx GJ ["self"] (zH K Cc):=aEr Ov T
  have Eu:=aFV FY T B H OH
  have Bt:ae l.prog w K mg base ao 2 q? H? ["jar", "many"] (jM K):=aEg SC B WH
  have Ey:=aFJ AB B SC Bt
  have OBE:ae l.prog w K mg base ao 1 w! N! ["hands"] (zJ):=aEA BE
  have LV:ae l.prog w K mg base ao 1 u? L? ["state", "deed"] (vM K):=aFZ EP
  have LZ:=aIa DO T FW Et FV Es FZ Ex p8 Ew
  have VX:=aF1 DD B SC Bt AB Ey
  have LP:ae l.prog w K mg base ao 1 p! G! ["some"] (lK K):=aBE WI B
  have VW:ae l.prog w K mg base ao 1 t? K? ["state", "where"] (qX K):=aC9 HP B
  have OID:=aBF ID B WI LP
  have V0:=aDb AL B WI LP HP VW
  have OAK:=aHk AK T Ou LM Ox LX IL Hg Ow LS Ov LR
  have VZ:=aEC AS B SC Bt AK OAK
  have VS:=aDc SD B WI LP HP VW ID OID AL V0
  obtain ⟨cE,c',Zc⟩:=k?
  have Nv:=aEE FY Zc H OH
  have Ny:ae l.prog w K mg base (fi l.prog w) 2 Bh Bk ["self"] (zN Cc c'):=aEF FZ T B Zc
  have Nu:=aF4 FW T B Zc Kw VT
  have Nt:=aEH FV T Zc W OW
  have Nw:ae l.prog w K mg base (fi l.prog w) 2 Bg Bj ["self"] (K9 K Cc c'):=aHn p8 T B Zc
  have Nx:=aHo DO T FW Nu FV Nt FZ Ny p8 Nw
  have OKI:ae l.prog w K mg base ao 1 t! K! ["caught"] (LC c'):=aF3 KI B Zc
  have VR:=aEJ WD Zc MK Cw FY Nv DO Nx KI OKI
  have V1:=aBH AD DO LZ EP LV AS VZ SD VS
  have OFU:ae l.prog w K mg base ao 5 u! L! ["jar", "state", "dealing"] (LB K Cc Pt oh):=aF8 FU B DO LZ EP LV AB Ey
  have OFA:=aEL FA B SC Bt AB Ey AD V1 WD VR
  have ONW:=aBM NW B SC Bt AB Ey
  have ORF:ae l.prog w K mg base ao 5 r! I! ["jar", "state"] (rW K Cc):=aBQ RF B SC Bt AB Ey NW ONW
  have OKP:ae l.prog w K mg base ao 1 s? J? ["found"] (Lx):=aGb KP B
  have OGB:=aEW GB B AD V1 DD VX
  exact aHt LW T B MK Cw SC Bt BE OBE FY Eu DD VX DO LZ EP LV AS VZ SD VS WD VR AL V0 RF ORF KP OKP FU OFU FA OFA GB OGB
theorem walk {l:Vu} {q:Program} {d:DefRec} {K:Params->Rb} {c2 oh:Addr} (hn:l.most=some 63) (DI:d.params.defaults = []) (hq:importsNone q=true) (hY:∀ (w:World) (h:Heap),YP w h->(K w.params).In h) (hT:∀ (w:World) (h:Heap),YP w h->h.get? Pt=some (Ta #[])) (Kh:∀ (w:World) (h:Heap),YP w h->h.get? oh=some (Ta #[])) (ff:Pt≠oh) (F:(∀ w:World,Ui (K w.params) c Pt=true)->(∀ w:World,Ui (K w.params) c2 oh=true)->∀ (w:World) (mg:Str->Option Value) (fa:Addr) (h:Heap),(K w.params).In h->h.Ns mainGlobals mg->mg d.name=some (.ref fa) ->
   ∃ fd:FuncData,(∀ (s:Shared) (u:Value),BindsTo s fd ⟨[u],[]⟩ [("script",u)])/\∀ base:Heap,(K w.params).In base->base.Ns mainGlobals mg->base.BuiltinsAt mg Pt->base.BuiltinsAt mg oh->ae l.prog w (K w.params) mg base ao 14 fa fd ["script"] (G5 (K w.params) Pt oh)) (Gm:∀ w:World,(K w.params).lookup Pt=none) (Ni:∀ w:World,(K w.params).lookup oh=none) (hC:∀ w:World,Ui (K w.params) c Pt=true) (Gq:∀ w:World,Ui (K w.params) c2 oh=true) :
  Mx q loose XP YP l.row.toRowW d [] (λf vs=>Mq f vs) :=
 L2.aD0 (n:=63) (k:=14) (x := "script") (CX:=λ_=>ao) (sp:=λw=>G5 (K w.params) Pt oh) (ts:=[(Pt,rP),(oh,qR)]) hn (by decide) DI ⟨rfl,by decide,by decide,rfl⟩ hq hY
  (λw h Y p hp=>by
   rcases Ql.mp hp with e | e
   ·rw [e]; exact ⟨hT w h Y,Gm w,c,Vf (hY w h Y) (hC w)⟩
   ·rw [Qx.mp e]; exact ⟨Kh w h Y,Ni w,c2,Vf (hY w h Y) (Gq w)⟩) (by simp [ff]) (λw mg fa h a b d=>let ⟨fd,h1,h2⟩:=F hC Gq w mg fa h a b d; ⟨fd,h1,λbase k1 k2 k3=>h2 base k1 k2 (k3 _ (Qp ..)) (k3 _ (Qk _ (Qp ..)))⟩)
  (λ_ _ a ns _ hO hS=>⟨a,ns,rfl,hS,hO.2 _ (Qp ..),hO.2 _ (Qk _ (Qp ..)),λH' h h2=>⟨rfl,λp hp=>by
   rcases Ql.mp hp with e | e
   ·rw [e]; exact h
   ·rw [Qx.mp e]; exact h2⟩⟩) λ_ _ _ _ _ z=>z
end Ab
open PySem PySem.W PyProof.Rows
set_option maxRecDepth 100000 in
set_option maxHeartbeats 0 in
theorem PySem.Challenge.cw_ablehands_k41_deeds_of_a_dealing_refused_holds : PySem.Challenge.rw_ablehands_k41_deeds_of_a_dealing_refused.Holds := by
 w_on; o_law; k_head; (case hw=>w_witness2)
 k_fill
 refine' Ab.walk (l:=PySem.Challenge.rw_ablehands_k41_deeds_of_a_dealing_refused) rfl rfl (by decide +kernel) (λw h Y=>PySem.W.km_in_of Y) (λw h Y=>Mi Y _ (Qk _ (Qp ..))) (λw h Y=>Mi Y _ (Qp ..)) (by decide) ?F ?KP ?KP2 ?HC ?HC2
 case F =>
  intro hC Gq w mg fa h KX G zt
  refine' Ab.aGh zt ?B ?Ce ?Cl ?Ki ?Z ?Kn ?Z2 ?hW ?hH ?PL ?QE ?P9 ?Pz ?Py ?hC ?hL ?Bc ?Pq ?Pa ?Pg ?Pc ?Pn ?QK ?QA ?P5 ?QF ?P' ?Pb ?PU ?PR ?QH ?QI ?QG ?Pm ?PN ?Pd ?Px ?Pp ?Gm ?QJ ?PY ?PZ ?P0 ?PK
  case Z =>
   intro base hb
   exact ⟨hC w,by decide,hb⟩
  case Z2 =>
   intro base hb
   exact ⟨Gq w,by decide,hb⟩
  case Kn =>
   refine' Ab.SK KX G (λ_ _ _ _ _ _ us hl=>match us,hl with | [_,_],_=>rfl) ?a ?l ?c ?k
   (case a=>k_is); (case l=>k_is); (case c=>k_is); (case k=>k_is)
  case Ki =>
   refine' Ab.SK KX G (λ_ _ _ _ _ _ us hl=>match us,hl with | [_,_,_,_],_=>rfl) ?a ?l ?c ?k
   (case a=>k_is); (case l=>k_is); (case c=>k_is); (case k=>k_is)
  case Ce =>
   refine' Ab.aIj KX G ?zE ?qE ?z0 ?q0 ?z1 ?q1 ?z2 ?q2 ?z3 ?q3 ?z4 ?q4 ?z5 ?q5 ?z6 ?q6 ?z7 ?q7 ?z8 ?q8 ?z9 ?q9 ?C3 ?HR ?nd
   (case zE=>k_is); (case qE=>kernel_rfl)
   (case z0 | z1 | z2 | z3 | z4 | z5 | z6 | z7 | z8 | z9 | C3=>k_is); (case q0 | q1 | q2 | q3 | q4 | q5 | q6 | q7 | q8 | q9 | HR=>kernel_rfl); (case nd=>decide)
  case Cl =>
   refine' Ab.aIi KX G ?cg ?pg ?hd ?po ?sa ?n1 ?n2 ?n3 ?n4 ?n5 ?n6 ?m1 ?m2 ?m3 ?m4 ?hIn ?QD ?zy ?QC ?Pw ?Pf ?QB ?PX ?O_ ?P8 ?PH ?PJ ?PD
   (case cg | pg | hd | po | sa | n1 | n2 | n3 | n4 | n5 | n6 | m1 | m2 | m3 | m4=>k_is)
   all_goals (refine' Ab.aIh ?b ?a ?i ?l ?c ?k; (case a=>k_is); (case i=>k_is); (case l=>k_is); (case c=>k_is); (case k=>k_is); (case b=>(intro _ _ _ _ _ _ us hl; first | exact (match us,hl with | [_],_=>rfl) | exact (match us,hl with | [_,_],_=>rfl))))
  case B =>
   apply Ab.aIf KX G <;> k_is
  all_goals (refine' Ab.aIe KX G ?b ?a ?l ?c ?k; (case a=>k_is); (case l=>k_is); (case c=>k_is); (case k=>k_is); (case b=>(intro _ _ _ _ _ _ us hl; first | exact (match us,hl with | [_],_=>rfl) | exact (match us,hl with | [_,_],_=>rfl) | exact (match us,hl with | [_,_,_],_=>rfl) | exact (match us,hl with | [_,_,_,_],_=>rfl))))
 case KP=>intro w; first | k_is | kernel_rfl
 case KP2=>intro w; first | k_is | kernel_rfl
 case HC=>intro w; kernel_rfl
 case HC2=>intro w; kernel_rfl
