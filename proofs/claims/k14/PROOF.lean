import PyProof.Rows.All
import Wide.All
import OpenK.AllK
import Wide.FinOn
import PyProof.EqAt
import PyProof.EqKinds
import PyProof.TupleCall
import PyProof.Rows.TupDisplay
import PyProof.DictCompW
import PyProof.WalksMore
import PyProof.MinMaxWalk
import PyProof.DictDisplay
import PyProof.DictWalks
import Lean
import PySem.Challenge.RW_ablehands_k14_what_evenest_deals_have
open PySem.Heap renaming get?_push_of_some -> Qa,get?_push_size -> Qg,lt_size -> Qm,size_push -> Jk,get?_update_other -> Jm,get?_update_self -> Xc
open List renaming length_map -> Qb,getElem?_eq_getElem -> Qc,getElem?_eq_some_iff -> Qd,getElem?_map -> Qe,mem_of_getElem? -> Qi,mem_cons_self -> Qj,mem_cons_of_mem -> Qk,size_toArray -> Ql,mem_cons -> Qn,mem_singleton -> Qo,map_append -> Qp,length_append -> Qq,not_mem_nil -> Qs,getElem?_append_left -> Qt,getD_eq_getElem?_getD -> Qu,length_take -> Qv,mem_map -> Qw,map_cons -> Qy,length_cons -> Ja,mem_iff_getElem? -> Jb,mem_append_right -> Jc,take_succ -> Jd,take_length -> Jf,mem_append -> Jh,getElem?_append_right -> Ji,getElem?_zip_eq_some -> Jl,map_map -> Jo,length_eq_zero_iff -> Jp,take_of_length_le -> Jq,length_range -> Js,all_eq_true -> Jt,mem_append_left -> Jv,mem_range -> Jw,length_drop -> Jy,mem_filter -> Jz,lookup_cons -> Xa,getElem_mem -> Xb,getElem?_range -> Xe,nodup_cons -> Xf,filter_cons -> Xg,mem_of_mem_take -> Xh,filter_append -> Xj,map_congr_left -> Xk,length_pos_iff -> Xl,length_replicate -> Xn,length_filter_le -> Xo,dropLast_concat_getLast -> Xp,getElem?_replicate -> Xq,length_set -> Xr,find?_cons -> Xs,set_eq_take_append_cons_drop -> Xu,pairwise_iff_getElem -> Xv,getElem?_set -> Xz,forIn_cons -> Zb,count_cons -> Zc,pairwise_cons -> Ze,take_append_drop -> Zf,getElem?_eq_none -> Zg,getElem?_eq_none_iff -> Zh,forIn_nil -> Zi,append_nil -> Zk,ext_getElem? -> Zn,foldl_append -> Zo,filterMap_cons -> Zp,any_cons -> Zq,replicate_succ -> Zr,length_take_le -> Zu,filterMap_map -> Zv,nil_append -> Zw,map_take -> Zx,count_append -> Zy,pairwise_append -> Zz,nodup_nil -> Ya,any_eq_true -> Yc,all_map -> Ye,length_nil -> Yh,mem_singleton_self -> Yi,flatten_replicate_singleton -> Yj,length -> Yk,flatten_cons -> Yl,append_assoc -> Ym,take_zero -> Yn,map_nil -> Yp,zipIdx_cons -> Yr,isEmpty_nil -> Ys,getElem?_set_ne -> Yt,count_le_length -> Yu,map_drop -> Yv,toList_toArray -> Yw,zipIdx_nil -> Yx,length_reverse -> Yy,drop_zero -> Wa,drop_eq_getElem_cons -> Wb,mem_or_eq_of_mem_set -> Wc,count_singleton_self -> Wd,getElem?_take_of_lt -> Wf,filterMap_cons_some -> Wg,length_erase_of_mem -> Wh,getElem?_inj -> Wi,nodup_append -> Wj,eq_of_mem_replicate -> Wk,getElem?_cons_zero -> Wl,getElem?_cons_succ -> Wm,cons_append -> Wn,perm_middle -> Wo,getElem?_set_self -> Wp,drop_of_length_le -> Wq,getElem_cons_drop -> Wr,pairwise_lt_range -> Wu,of_mem_zip -> Wv,singleton_append -> Ww,filterMap_append -> Wx,any_map -> Wy,count_singleton -> Wz,replicate_succ' -> Qaa,mem_of_mem_drop -> Qab,reverse_append -> Qae,filter_sublist -> Qaf,mergeSort_perm -> Qah,mem_filterMap -> Qai,getElem?_drop -> Qak,map_filterMap -> Qal,ne_nil_of_mem -> Qan,count_eq_zero -> Qao
open Nat renaming le_refl -> Qh,lt_of_lt_of_le -> Qx,ne_of_lt -> Qz,le_trans -> Je,zero_le -> Jr,lt_irrefl -> Ju,lt_succ_of_lt -> Jx,ne_of_gt -> Xm,lt_succ_self -> Xx,le_add_right -> Xy,mul_le_mul -> Zj,le_succ_of_le -> Zl,not_lt_zero -> Zm,succ_le_succ -> Yb,lt_of_le_of_lt -> Yf,le_of_lt -> Yo,lt_trans -> Yq,lt_or_ge -> Yz,pow_le_pow_right -> Qac,le_succ -> Qad,mod_lt -> Qaq,le_of_eq -> Qar,sub_zero -> Qas,zero_add -> Qau,pow_succ -> Qav
open Bool renaming false_ne_true -> Qr,false_eq_true -> Jg,and_eq_true -> Jn,eq_iff_iff -> Za,true_and -> Zs,not_eq_true -> Yd,not_true -> Qam,true_or -> Qat
open Int renaming toNat_natCast -> Jj,le_refl -> Xd,emod_lt_of_pos -> Xi,emod_nonneg -> Xt,zero_add -> Zd,toNat_of_nonneg -> Zt,natCast_add -> Yg,add_mul -> Qag,le_trans -> Qaw
open Option renaming map_some -> Xw,isSome_iff_exists -> We,isSome_some -> Qaj,isSome_map -> Qap,getD_none -> Qax
open PySem renaming wpAny_bind -> Ra,wpAny_pure -> Rb,sizeLine_eq -> Rf,wpAny_setField_rec -> Rg,wpAny_callSpecial?_slot -> Rh,wpAny_field -> Ri,wpAny_call_entry -> Rj,wpAny_newObj_type -> Rk,wpAny_holding -> Rl,wpAny_mono -> Rn,wpAny_seqItems -> Ro,wpAny_loadPart' -> Rr,wpAny_truthy_bool -> Rt,wpAny_attempt -> Rx,codeAny_builtin -> Ta,wpAny_fieldsOf -> Td,wpAny_setState_of -> Tf,wpAny_standAt -> Tg,wpAny_letGo -> Th,wpAny_ite_split -> To,wpAny_pyIter_list -> Tq,wpAny_updateSeq_pair -> Tr,plainId_quiet -> Tt,wpAny_rule -> Tu,wpAny_isInstance -> Tx,wpAny_typeNameOfWhole_keyiter -> Ua,wpAny_typeNameOfWhole_valiter -> Ub,wpAny_Call_Name_kw -> Uc,wpAny_passesOwn -> Ue,size_of_entries -> Ug,wpAny_onRaise -> Uh,wpAny_dictEntries -> Ui,mem_of_lookup -> Uj,codeAny_mono -> Uo,wpAny_typeNameOf_keyiter -> Us,wpAny_typeNameOf_valiter -> Ut,wpAny_dictEpoch -> Uu,wpAny_setField -> Uw,isSubtype_stop -> Ux,wpAny_tryCatch -> Uy,wpAny_isOneOf_valiter -> Uz,call_meets -> Va,wpAny_askSetting -> Vb,wpAny_pyIter_zip -> Vc,wpAny_ite_false -> Vf,wpAny_updateSeq -> Vg,wpAny_typeOf -> Vh,wpAny_newTuple -> Vi,tupleKind_room_in1 -> Vj,wpAny_collect_seq -> Vk,wpAny_of_eq -> Vl,wpAny_pyIter_enum -> Vm,wpAny_pyIter_slot -> Vn,noFill_tuple_add -> Vp,callType_new -> Vr,wpAny_execs_nil -> Vt,codeAny_of_tree -> Vu,wpAny_isOneOf_keyiter -> Vx,codeAny_call_builtin -> Vz,seq_tuple_add -> Ie,evalPart_none -> Ig,wpAny_handled -> Ih,wpAny_Name -> Ik,wpAny_pyIter_tuple -> Il,wpAny_call -> Im,typeIs_int -> Ip,concat_meets -> Iw,wpAny_throw -> Ml,wpAny_runValue -> Mv,isSubtype_type -> Mw,wpAny_letOwnedTupleGo_enum -> Mx,intKind_is -> My,wpAny_binaryOp_repeat_ref -> Raa,wpAny_getItem_list_slice -> Rac,call -> Rae,putSet_of -> Raf,seqIndex_neg -> Rah,seqSlot_of -> Rai,wpAny_isTrue_Compare1 -> Raj,builtinLookup_eq_fast -> Rak,weight_type_call_type -> Ral,wpAny_notOrdered_dict -> Ram,wpAny_loadName_local -> Rao,seqIndex_of -> Rap,wpAny_newFunctionEnv -> Raq,wpAny_alloc -> Rar,wpAny_pyIter_keyiter -> Ras,wpAny_loadName_free -> Rav,argBest_lt -> Raz,wpAny_dictSet_heap -> RaA,piled_cons -> RaB,wpAny_assign_Name -> RaC,wpAny_sequenceKey -> RaD,wpAny_pyIter_dict -> RaE,wpAny_storeSet_of -> RaF,wpAny_execs_cons -> RaG,check_set_init_1 -> RaH,wpAny_Dict_empty -> RaI,typeLookup_type -> RaS,wpAny_stack_any -> RaT,wpAny_specialOf -> RaU
open PySem.W renaming Frag -> Rc,mg_none_of -> Rm,nsIn -> Rp,tabObj -> Rv,emptyDict -> Tc,fnOf -> Ti,keepIn -> Tn,instObj -> Tv,findIn -> Ud,kla_fn -> Ur,codeIn -> Vd,CodeHd -> Vo,mg_of -> Vq,methodObj -> Vy,codeHdIn -> Ia,OpenLaw -> Ic,lookIn -> Iq,cellsFrom_some -> Mg,codeHd_of_K -> Mu,specialIn -> Rab,plainGet -> Rad,takerIn -> Rag,WalkO -> Ran,isFn -> Rau
open PySem.F renaming slot_enumerate_next -> Rq,slot_zip_next -> Ru,plainAttrs_list -> Rw,slot_list_append -> Ry,type_list_append -> Rz,slot_tuple_iterator_next -> Tj,args_enumerate_next_1 -> Ts,entry_enumerate_next -> Tw,args_tuple_add_2 -> Uk,entry_tuple_add -> Ul,args_zip_next_1 -> Um,slot_tuple_add -> Up,entry_zip_next -> Uq,args_object_init_2 -> Ve,args_tuple_iterator_next_1 -> Vs,entry_tuple_iterator_next -> Vv,typeCall_enumerate_1 -> Ib,newCall_enumerate_1 -> Ii,entry_enumerate_new -> Ij,args_object_init_3 -> Ir,sub_list_frozenset -> Iu,plain_extend_loop -> Iv,slot_tuple_count -> Iy,called_enumerate -> Iz,slot_dict_values -> Ma,args_tuple_mul_2 -> Mb,plain_list_iadd -> Mc,entry_type_call -> Md,plainAttrs_dict -> Me,entry_tuple_mul -> Mf,typeCall_zip_2 -> Mh,typeCall_set_1 -> Mi,entry_set_init -> Mj,plain_set_new -> Mm,newCall_zip_2 -> Mn,entry_zip_new -> Mp,slot_set_iter -> Mq,slot_dict_get -> Mr,slot_int_rmul -> Ms,sub_list_set -> Mt,called_zip -> Mz
open PyProof.Rows renaming subscriptTail_builtinR -> Uv,Subscript_ -> Io,entry_tuple_getitem -> Rax,args_tuple_getitem -> Ray,entry_list_sort -> RaR
open PySem.EqMixed renaming eq_bool_str -> RaJ,eq_int_str -> RaK,eq_str_bool -> RaL,eq_str_int -> RaM,ne_bool_str -> RaN,ne_int_str -> RaO,ne_str_bool -> RaP,ne_str_int -> RaQ
open PySem.EqNone renaming eq_none_none -> RaV,eq_none_bool -> RaW,eq_none_int -> RaX,eq_none_str -> RaY,eq_bool_none -> RaZ,eq_int_none -> Ra0,eq_str_none -> Ra1,ne_none_none -> Ra2,ne_none_bool -> Ra3,ne_none_int -> Ra4,ne_none_str -> Ra5,ne_bool_none -> Ra6,ne_int_none -> Ra7,ne_str_none -> Ra8
open PySem
variable {XP:(Str->Option Value)->Heap->Prop} {a b it D f c C dx sl I i1 i2 l1 l2 fW fH fK fB fNB fD fND fL fS rp Pt fE:Addr} {params:Arguments} {A:Around} {osl:Array (Option Value)} {items:Array Value} {L f1:Bool} {op:CmpOp} {e tg iter value elt kx vx:Expr} {fd fdW dW dH dK dB dNB dD dND dL fdD dE:FuncData} {h h' base:Heap} {n lo:Int} {pins:List (Addr×Obj)} {ks:List (Int×Tok)} {Ws:List (List (Nat×Int×Int))} {m:List (List Int×Int)} {ws ws':List (List Int)} {ss:List (Nat×Int×Int)} {cl:List (Str×Addr)} {ch fp S qs:List Addr} {outer:List Env} {es ifs:List Expr} {l ns U hs ms hs' lv:List Int} {φ:List Int->Int} {ds:List PyData} {body:List Stmt} {N ps loose own frn:List Str} {us bm:List Value} {M:Model} {t' j ep n2 x1 mask:Nat} {st1 st2:Nat->Heap->Prop} {P1 P2:Nat->Value->Prop} {o ob:Obj} {an od:Option Addr} {hi:Option Int} {z:Option Str} {os:OsState} {pos pos' p tpos apos kpos p2 cpos p1 p3:Pos} {P prog q:Program} {B:Prop} {K:Rc} {R:Result->Shared->Prop} {scope:Scope} {s s':Shared} {st:Stmt} {name qual vn xn:Str} {kindOf:Str->Option NameKind} {mA mg:Str->Option Value} {T:String} {κ α β:Type} {u doc pm cdv ct oc vl vu f0:Value} {E Q:Value->Shared->Prop} {w:World} {YP:World->Heap->Prop}
namespace PySem.W.Fast
def tw7884347186103350824:=0
def tw15363906152849021419:=0
def tw1762991673665242470:=0
def tw15248692109765072160:=0
def tw5569154221972970810:=0
def tw14576920349449973411:=0
def tw7956970892948227620:=0
def tw4912127919530770620:=0
def tw1843004569393462188:=0
def tw5718378667321901320:=0
def tw5094309234714864480:=0
def tw1408801828833998920:=0
def tw1289910698353612966:=0
def tw13186694075949894218:=0
def tw4890097350918843842:=0
def tw2017674290341605512:=0
def tw8605582544975397076:=0
def tw864729508178421838:=0
def tw15061151357814903654:=0
def tw16407426233623639116:=0
def tw17852606572570305866:=0
def tw7433782082720837508:=0
def tw2018478688094663981:=0
def tw5711225840370372190:=0
def tw999926313688721463:=0
def tw9562970163335254155:=0
def tw14862557423374287446:=0
def tw2949746868825237864:=0
def tw1810323705410574920:=0
def tw4713230399432171396:=0
def tw18138945005880700023:=0
def tw15946500305237308640:=0
def tw7919040761756006279:=0
def tw9684431840526438968:=0
def tw5956585160603341890:=0
def tw17303416056674973457:=0
def tw3373617535291066670:=0
def tw8964990920221549113:=0
def tw13559385909677866838:=0
def tw8468825245869633409:=0
def tw3784234331689915277:=0
def tw18051729559980318509:=0
def tw475244107672144015:=0
def tw15598243449538127458:=0
def tw6701582593155530539:=0
def tw2322291100680940955:=0
def tw12401184695010785627:=0
def tw546724340304466027:=0
def tw4793991589655309614:=0
def tw8835280268961011722:=0
def tw10980127850685588996:=0
def tw4464742428147477115:=0
def tw15429934512561296066:=0
def tw2584919043578793066:=0
def tw11485639764138782079:=0
def tw420243677949405257:=0
def tw11918811050698000310:=0
def tw12007580713801757398:=0
def tw15052737004317117488:=0
def tw15375127714781621165:=0
def tw5336935867354894957:=0
def tw12021430977139488513:=0
def tw10109846941623841185:=0
def tw891322419623961607:=0
def tw4876141809373829929:=0
def tw9022804740161707237:=0
def tw10181612802398787202:=0
def tw11596966158029594029:=0
def tw13046273975545761134:=0
def tw6548714224385277789:=0
def tw9950857896045182476:=0
def tw2755620322675632931:=0
def tw14767475929263359170:=0
def tw15685161432366622365:=0
def tw8241859781130013256:=0
def tw8000165597530983533:=0
def tw8223367884054496712:=0
def tw8415257048390558596:=0
def tw2465694205200400334:=0
def tw16444724676832620200:=0
def tw14702648970047663047:=0
def tw10837522921683151057:=0
def tw10719895537525635766:=0
def tw3894517283018637932:=0
def tw10617303381391899376:=0
def tw5232772601895875024:=0
def tw18028878065064044572:=0
def tw9403728298053470765:=0
def tw16819100162388905453:=0
def tw7160189709198631406:=0
def tw6822870872312063099:=0
def tw13412182314408592800:=0
def tw17543265904923472581:=0
def tw18113715064831498736:=0
def tw11514620493574390913:=0
def tw17110731712845598294:=0
def tw15144506738337126303:=0
def tw10292964215686427031:=0
def tw12306128356092534319:=0
def tw7398131983379965315:=0
def tw12474091218178527350:=0
def tw15956743153254112165:=0
def tw6692649377882719936:=0
def tw14686162896506551671:=0
def tw10532493057805094563:=0
def tw15992461956458417150:=0
def tw17600057674878579648:=0
def tw12821934848189552687:=0
def tw5239084293437421284:=0
def tw1073106788639156607:=0
def tw10033709710851517262:=0
def tw16425643182449018630:=0
def tw13475932743460553243:=0
def tw8574473236178993586:=0
def tw9758076349218315195:=0
def tw4797967223039507509:=0
def tw4593422897910199759:=0
def tw4043975651791241:=0
def tw12494702672889001751:=0
def tw15289558361374970350:=0
def tw8107420237256737032:=0
def tw632906403238548426:=0
def tw1343879311261927682:=0
def tw14107058518491271832:=0
def tw621309878895328218:=0
def tw15596106050120148847:=0
def tw10371842167585734472:=0
def tw5773764640816752219:=0
def tw17634077349790193730:=0
def tw4022229404131610747:=0
def tw8192515824157386551:=0
def tw1190185842777816775:=0
def tw5665745318350467768:=0
def tw4504081226181266286:=0
def tw6687894269862786771:=0
def tw14198715595767975091:=0
def tw2912062519331267348:=0
def tw59941016232638835:=0
def tw17940291696564510629:=0
end PySem.W.Fast
set_option Elab.async false
set_option linter.all false
set_option maxRecDepth 100000
namespace L2
open PySem PySem.Spec PyProof.Rows
abbrev Key:=Sum Int Str
end L2
open L2
variable {its:List (List Key×Addr×Value)}
namespace L2
open PySem PySem.Spec PyProof.Rows
def tK:Key->Value->Bool
 | .inl k,v=>Value.isInt k v
 | .inr x,v=>Value.isStrOf x v
def aHD (w:World):Key->Int
 | .inl k=>hashInt k
 | .inr x=>hashStr w x
theorem cS:∀ {k:Key} {v:Value},tK k v=true->(∃ i t,k=Sum.inl i/\v=Value.int i t)∨(∃ x t,k=Sum.inr x/\v=Value.str x t)
 | .inl i,v,h=>by
  obtain ⟨t,e⟩:=Value.isInt_shape (k:=i) (v:=v) h
  exact .inl ⟨i,t,rfl,e⟩
 | .inr x,v,h=>by
  obtain ⟨t,e⟩:=Value.isStrOf_shape (x:=x) (v:=v) h
  exact .inr ⟨x,t,rfl,e⟩
theorem aBL (i:Int) (t:Tok):tK (.inl i) (.int i t)=true:=by simp [tK,Value.isInt]
theorem aBM (x:Str) (t:Tok):tK (.inr x) (.str x t)=true:=by simp [tK,Value.isStrOf]
theorem aFV (a b:Int):decide ((Sum.inl a:Key)=Sum.inl b)=(a==b):=by
 by_cases e:a=b
 ·subst e; simp
 ·have h:¬ (Sum.inl a:Key)=Sum.inl b:=λq=>e (Sum.inl.inj q)
  rw [decide_eq_false h]
  exact (beq_eq_false_iff_ne.mpr e).symm
theorem aFW (a b:Str):decide ((Sum.inr a:Key)=Sum.inr b)=decide (a=b):=by
 by_cases e:a=b
 ·subst e; simp
 ·have h:¬ (Sum.inr a:Key)=Sum.inr b:=λq=>e (Sum.inr.inj q)
  rw [decide_eq_false h,decide_eq_false e]
theorem aFX (a:Int) (b:Str):decide ((Sum.inl a:Key)=Sum.inr b)=false:=decide_eq_false (λq=>nomatch q)
theorem aFY (a:Str) (b:Int):decide ((Sum.inr a:Key)=Sum.inl b)=false:=decide_eq_false (λq=>nomatch q)
def cA (prog:Program) (w:World):PySem.KeyKind prog w Key where
 is:=tK
 hash:=aHD w
 inj:=λv a b ha hb=>by
  rcases cS ha with ⟨i,t,rfl,rfl⟩ | ⟨x,t,rfl,rfl⟩
  ·rcases cS hb with ⟨j,u,rfl,e⟩ | ⟨y,u,rfl,e⟩
   ·injection e with e1 _; rw [e1]
   ·exact nomatch e
  ·rcases cS hb with ⟨j,u,rfl,e⟩ | ⟨y,u,rfl,e⟩
   ·exact nomatch e
   ·injection e with e1 _; rw [e1]
 byValue:=λk v h=>by
  rcases cS h with ⟨i,t,rfl,rfl⟩ | ⟨x,t,rfl,rfl⟩ <;> rfl
 pyHash:=λhv h=>by
  rcases cS hv with ⟨i,t,rfl,rfl⟩ | ⟨x,t,rfl,rfl⟩
  ·exact wpAny_pyHash_int h
  ·exact wpAny_pyHash_str h
 eqBool:=λhu hv h=>by
  rcases cS hu with ⟨i,t,rfl,rfl⟩ | ⟨x,t,rfl,rfl⟩
  ·rcases cS hv with ⟨j,u,rfl,rfl⟩ | ⟨y,u,rfl,rfl⟩
   ·rw [aFV] at h; exact wpAny_eqBool_int h
   ·rw [aFX] at h; exact SeqAt.EqAt.int_str i t y u _ _ _ _ h
  ·rcases cS hv with ⟨j,u,rfl,rfl⟩ | ⟨y,u,rfl,rfl⟩
   ·rw [aFY] at h; exact SeqAt.EqAt.str_int x t j u _ _ _ _ h
   ·rw [aFW] at h; exact wpAny_eqBool_str h
 «strs»:=λk x t v h=>by
  rcases cS h with ⟨i,u,rfl,e⟩ | ⟨y,u,rfl,e⟩
  ·exact nomatch e
  ·injection e with e1 _
   subst e1
   cases v <;> rfl
theorem wN (prog:Program) (w:World) (i:Int) (t:Tok):(cA prog w).is (.inl i) (.int i t)=true:=aBL i t
theorem wO (prog:Program) (w:World) (x:Str) (t:Tok):(cA prog w).is (.inr x) (.str x t)=true:=aBM x t
inductive V where
 | non | bl (b:Bool) | int (i:Int) | str (x:Str) | byt (b:Array UInt8) | flt (b:UInt64) | ref (a:Addr) | ty (n:String)
 deriving DecidableEq
end L2
variable {rs:List (List (Key×V))} {kvs:List (List Key×V)} {xs ys vs zs:List V} {x v y:V}
namespace L2
open PySem PySem.Spec PyProof.Rows
def bQ:V->Value->Prop
 | .non,u=>u=Value.none
 | .bl b,u=>u=Value.bool b
 | .int i,u=>∃ t,u=Value.int i t
 | .str x,u=>∃ t,u=Value.str x t
 | .byt b,u=>∃ t,u=Value.bytes b t
 | .flt b,u=>∃ t,u=Value.float b t
 | .ref a,u=>u=Value.ref a
 | .ty n,u=>u=Value.type n
abbrev bK:List V->List Value->Prop:=Paired bQ
theorem bK.length (r:bK xs us):xs.length=us.length:=Paired.length r
theorem bK.get:∀ {xs:List V} {us:List Value} {i:Nat} {x:V},bK xs us->xs[i]?=some x->∃ u,us[i]?=some u/\bQ x u
 | _,_,_,_,.nil,e=>by simp at e
 | _,_,0,_,.cons r _,e=>by simp at e; subst e; exact ⟨_,rfl,r⟩
 | _,_,i+1,x,.cons _ t,e=>by
  obtain ⟨u,h1,h2⟩:=bK.get (i:=i) (x:=x) t (by simpa using e)
  exact ⟨u,by simpa using h1,h2⟩
theorem bK.set (r:bQ x u):∀ {xs:List V} {us:List Value} (i:Nat),bK xs us->bK (xs.set i x) (us.set i u)
 | _,_,_,.nil=>.nil
 | _,_,0,.cons _ t=>.cons r t
 | _,_,i+1,.cons q t=>.cons q (bK.set r i t)
theorem bK.append:∀ {xs ys:List V} {us ws:List Value},bK xs us->bK ys ws->bK (xs++ys) (us++ws)
 := by
 intro xs ys us ws h s
 induction h with
 | nil=>exact s
 | cons r t ih=>exact .cons r ih
theorem bK.take:∀ {xs:List V} {us:List Value} (n:Nat),bK xs us->bK (xs.take n) (us.take n)
 | _,_,0,_=>.nil
 | _,_,_+1,.nil=>.nil
 | _,_,n+1,.cons r t=>.cons r (bK.take n t)
theorem bK.drop:∀ {xs:List V} {us:List Value} (n:Nat),bK xs us->bK (xs.drop n) (us.drop n)
 | _,_,0,r=>r
 | _,_,_+1,.nil=>.nil
 | _,_,n+1,.cons _ t=>bK.drop n t
theorem bK.none_of:∀ {xs:List V} {us:List Value} {i:Nat},bK xs us->xs[i]?=none->us[i]?=none:=λ{xs us i} r e=>by
 have h1:=r.length
 have h2:xs.length<=i:=Zh.mp e
 exact Zh.mpr (by omega)
def mG:Option V->Option Value->Prop
 | some v,some u=>bQ v u
 | none,none=>True
 | _,_=>False
def KV:List (κ×V)->List (κ×Value)->Prop:=Paired λ(p:κ×V) (q:κ×Value)=>p.1=q.1/\bQ p.2 q.2
def kV:Key->V
 | .inl i=>.int i
 | .inr x=>.str x
inductive HO where
 /-- a list -/
 | lst (xs:List V)
 /-- a tuple (never changes) -/
 | tup (xs:List V)
 /-- a dict whose keys are ints and texts; one whose keys are tuples of ints and texts (the empty one is both) -/
 | dK (kvs:List (Key×V)) | dT (kvs:List (List Key×V))
 /-- a set of ints: its members,its size -/
 | set (S:Int->Bool) (n:Nat)
 /-- an instance of the class at C,its dict at dx,its attributes -/
 | ins (C dx:Addr) (fs:List (Str×V))
 /-- the dict of the instance at x -/
 | own (x:Addr)
 /-- the dict of an exception -/
 | xd (fs:List (Str×V))
 /-- a bound method,f of x -/
 | met (f x:Addr)
 /-- a range object lo,lo+1,.. below hi -/
 | rng (lo hi:Int)
 /-- a thing that is known to the object (the script; a dict while a loop walks it): read,never written while it is so -/
 | frz (o:Obj) (u:HO)
 /-- a code object's table -/
 | tbl (ps:Array Value)
 /-- a code object's table,all of whose codes have the name q; they are tracked as its own -/
 | tab (q:Str)
 /-- any other thing,by what is true of its one object (a def of one's own: aHT a S n:=HO.ext λh=>..) -/
 | ext (φ:Heap->Prop)
abbrev Hp:=Addr->Option HO
end L2
variable {H H' H1 H2 H0:Hp} {Qf:Hp->List V->Prop}
namespace L2
open PySem PySem.Spec PyProof.Rows
def upd (H:Hp) (a:Addr) (o:HO):Hp:=λb=>if b=a then some o else H b
theorem aB {o:HO}:upd H a o a=some o:=by unfold upd; rw [if_pos rfl]
theorem aH {o:HO} (h:b≠a):upd H a o b=H b:=by unfold upd; rw [if_neg h]
theorem aAO {o u:HO}:upd (upd H a o) a u=upd H a u:=by
 funext b; unfold upd; split <;> rfl
theorem aFB {o u:HO} (h:H a=some o) (h':H b=some u) (d:o≠u):a≠b:=by
 intro e; subst e; rw [h] at h'; exact d (Option.some.inj h')
theorem gK {o:HO} (h:H a=some o) (h':H b=none):a≠b:=by
 intro e; subst e; rw [h] at h'; cases h'
section
variable (P:Program) (w:World)
def bN (H:Hp) (h:Heap) (a:Addr):HO->Prop
 | .lst xs=>xs.length<=sizeLine/\∃ (its:List Value) (n:Nat),bK xs its/\h.get? a=some { cls:=.type "list",data:=.seq its.toArray n }
 | .tup xs=>xs.length<=sizeLine/\∃ (its:List Value) (n:Nat),bK xs its/\h.get? a=some { cls:=.type "tuple",data:=.seq its.toArray n }
 | .dK kvs=>kvs.length<=sizeLine/\(a==sysModules)=false/\∃ vs,KV kvs vs/\h.DictOf (cA P w) a vs
 | .dT kvs => kvs.length <= sizeLine /\ (a == sysModules) = false /\ ∃ xs : List (List Key × Addr × Value),
     Paired (λ(p:List Key×V) (q:List Key×Addr×Value)=>p.1=q.1/\H q.2.1=some (.tup (p.1.map kV))/\bQ p.2 q.2.2) kvs xs /\
     ∃ o es ep,h.get? a=some o/\o.ExactDict/\o.data=.dict es ep/\es.toList=xs.map (entryOfKey (tupleKind (cA P w)))/\(xs.map (·.1)).Nodup
 | .set S n=>h.SetOf (intKind P w) a S n
 | .ins C dx fs => H dx = some (.own a) /\ fs.length <= 1000 /\ dx ≠ a /\ h.get? a = some (Tv C dx) /\
     ∃ mA,h.Ns1 dx mA/\(∀ f,mG (fs.lookup f) (mA f))/\PySem.Within mA (fs.map (·.1))
 | .own _=>∃ o,h.get? a=some o
 | .xd fs=>∃ mA,h.Ns1 a mA/\∀ f,mG (fs.lookup f) (mA f)
 | .rng lo hi=>∃ t u v,h.get? a=some { cls:=.type "range",data:=.fields #[.int lo t,.int hi u,.int 1 v] }
 | .frz o u=>h.get? a=some o/\bN H h a u
 | .tbl ps=>h.get? a=some { cls:=.none,data:=.fields ps }
 | .tab q=>∃ ps:Array Value,h.get? a=some { cls:=.none,data:=.fields ps }/\TriplesOk ps.toList/\∀ (pos:Pos) (cv:Value),codeAmong pos ps.toList=some cv->∃ (c:Addr) (o:Obj) (vs:Array Value) (t:Tok),cv=.ref c/\H c=some (.own a)/\h.get? c=some o/\o.data=.fields vs/\vs[1]?=some (.str q t)
 | .met f x=>h.get? a=some (Vy (.ref f) (.ref x))
 | .ext φ=>φ h/\(∃ o,h.get? a=some o)/\∀ h1 h2:Heap,φ h1->(∀ o,h1.get? a=some o->h2.get? a=some o)->φ h2
def HOk (H:Hp) (h:Heap):Prop:=∀ a o,H a=some o->bN P w H h a o
end
section
variable {o:HO}
theorem bN.lt (x:bN P w H h a o):a < h.objs.size:=by
 cases o with
 | lst xs=>obtain ⟨_,_,_,_,e⟩:=x; exact Qm e
 | tup xs=>obtain ⟨_,_,_,_,e⟩:=x; exact Qm e
 | dK kvs=>obtain ⟨_,_,_,_,o,_,_,e,_⟩:=x; exact Qm e
 | dT kvs=>obtain ⟨_,_,_,_,o,_,_,e,_⟩:=x; exact Qm e
 | set S n=>obtain ⟨o,_,_,_,e,_⟩:=x; exact Qm e
 | ins C dx fs=>obtain ⟨_,_,_,e,_⟩:=x; exact Qm e
 | own y=>obtain ⟨_,e⟩:=x; exact Qm e
 | xd fs=>obtain ⟨_,⟨_,_,_,e,_⟩,_⟩:=x; exact Qm e
 | rng lo hi=>obtain ⟨_,_,_,e⟩:=x; exact Qm e
 | frz ob u=>obtain ⟨e,_⟩:=x; exact Qm e
 | tbl ps=>exact Qm (show h.get? a=some _ from x)
 | tab q=>obtain ⟨_,e,_⟩:=x; exact Qm e
 | met f y=>exact Qm (show h.get? a=some _ from x)
 | ext φ=>obtain ⟨_,⟨_,e⟩,_⟩:=x; exact Qm e
theorem Paired.mapP {F G:α->β->Prop}:∀ {l1x:List α} {l2x:List β},Paired F l1x l2x->(∀ a b,F a b->G a b)->Paired G l1x l2x
 := by
 intro l1x l2x h f
 induction h with
 | nil=>exact .nil
 | cons r t ih=>exact .cons (f _ _ r) ih
theorem bN.stay (x:bN P w H h a o) (k:∀ b u,(b=a∨H b=some (.own a))->h.get? b=some u->h'.get? b=some u)
  (ho:∀ b,H b=some (.own a)->H' b=some (.own a)) (ht:∀ b xs,H b=some (.tup xs)->H' b=some (.tup xs)):bN P w H' h' a o:=by
 induction o with
 | lst xs=>obtain ⟨z,its,n,r,e⟩:=x; exact ⟨z,its,n,r,k _ _ (.inl rfl) e⟩
 | tup xs=>obtain ⟨z,its,n,r,e⟩:=x; exact ⟨z,its,n,r,k _ _ (.inl rfl) e⟩
 | dK kvs=>obtain ⟨z,y,vs,r,ob,es,ep,e,c⟩:=x; exact ⟨z,y,vs,r,ob,es,ep,k _ _ (.inl rfl) e,c⟩
 | dT kvs =>
  obtain ⟨z,y,xs,r,ob,es,ep,e,c⟩:=x
  exact ⟨z,y,xs,Paired.mapP r λp q z=>⟨z.1,ht _ _ z.2.1,z.2.2⟩,ob,es,ep,k _ _ (.inl rfl) e,c⟩
 | set S n=>obtain ⟨ob,es,ep,t,e,c⟩:=x; exact ⟨ob,es,ep,t,k _ _ (.inl rfl) e,c⟩
 | ins C dx fs =>
  obtain ⟨d,z,ne,e,mA,⟨od,es,ep,e2,c⟩,r⟩:=x
  exact ⟨ho _ d,z,ne,k _ _ (.inl rfl) e,mA,⟨od,es,ep,k _ _ (.inr d) e2,c⟩,r⟩
 | own y=>obtain ⟨ob,e⟩:=x; exact ⟨ob,k _ _ (.inl rfl) e⟩
 | xd fs=>obtain ⟨mA,⟨od,es,ep,e,c⟩,r⟩:=x; exact ⟨mA,⟨od,es,ep,k _ _ (.inl rfl) e,c⟩,r⟩
 | rng lo hi=>obtain ⟨t,u,v,e⟩:=x; exact ⟨t,u,v,k _ _ (.inl rfl) e⟩
 | frz ob u ih=>obtain ⟨e,q⟩:=x; exact ⟨k _ _ (.inl rfl) e,ih q⟩
 | tbl ps =>
  have e:h.get? a=some { cls:=.none,data:=.fields ps }:=x
  show h'.get? a=some { cls:=.none,data:=.fields ps }
  exact k a _ (.inl rfl) e
 | tab q =>
  obtain ⟨ps,e,z,r⟩:=x
  refine ⟨ps,k _ _ (.inl rfl) e,z,λpos cv q=>?_⟩
  obtain ⟨c,o,vs,t,r1,r2,r3,r4⟩:=r pos cv q
  exact ⟨c,o,vs,t,r1,ho _ r2,k _ _ (.inr r2) r3,r4⟩
 | met f y =>
  have e:h.get? a=some (Vy (.ref f) (.ref y)):=x
  show h'.get? a=some (Vy (.ref f) (.ref y))
  exact k a _ (.inl rfl) e
 | ext φ=>obtain ⟨p,⟨o,e⟩,st⟩:=x; exact ⟨st _ _ p λo q=>k _ _ (.inl rfl) q,⟨o,k _ _ (.inl rfl) e⟩,st⟩
theorem HOk.lt (x:HOk P w H h) (e:H a=some o):a < h.objs.size:=(x a o e).lt
theorem HOk.fresh (x:HOk P w H h) (e:h.objs.size<=a):H a=none:=by
 cases q:H a with
 | none=>rfl
 | some u=>exact absurd (Qx (x.lt q) e) (Ju _)
theorem HOk.kept (x:HOk P w H h) (k:∀ b u,h.get? b=some u->h'.get? b=some u):HOk P w H h':=λa o e =>
 (x a o e).stay (λb u _ q=>k b u q) (λ_ q=>q) λ_ _ q=>q
theorem HOk.laid (x:HOk P w H h) (k:∀ b u,h.get? b=some u->h'.get? b=some u) (hp:h.objs.size<=a) (new:bN P w (upd H a o) h' a o):HOk P w (upd H a o) h':=λb u e=>by
 have hn:=x.fresh hp
 by_cases hb:b=a
 ·subst hb; rw [aB] at e; cases e; exact new
 ·rw [aH hb] at e
  exact (x b u e).stay (λc v _ q=>k c v q) (λc q=>by rw [aH (gK q hn)]; exact q) λc xs q=>by rw [aH (gK q hn)]; exact q
end
def Rd (H:Hp) (a:Addr) (u:HO):Prop:=H a=some u∨∃ o,H a=some (.frz o u)
theorem Rd.of {u:HO} (h:H a=some u):Rd H a u:=.inl h
theorem Rd.ok {u:HO} (r:Rd H a u) (x:HOk P w H h):bN P w H h a u:=by
 rcases r with r | ⟨o,r⟩
 ·exact x a u r
 ·obtain ⟨_,q⟩:=x a _ r
  exact q
def Mut:Option HO->Prop
 | some (.lst _)=>True
 | some (.dK _)=>True
 | some (.dT _)=>True
 | some (.set _ _)=>True
 | some (.ins _ _ _)=>True
 | some (.ext _)=>True
 | some (.tab _)=>True
 | _=>False
section
variable {x e:Addr} {o':HO}
theorem HOk.write (ok:HOk P w H h) (mu:Mut (H x)) (he:e=x∨H e=some (.own x)) (k:∀ b u,b≠e->h.get? b=some u->h'.get? b=some u) (heo:∃ u,h'.get? e=some u)
  (new:bN P w (upd H x o') h' x o'):HOk P w (upd H x o') h':=λb u q=>by
 have nown:∀ c y,H c=some (.own y)->c≠x:=λc y r z=>by subst z; rw [r] at mu; exact mu
 have ntup:∀ c xs,H c=some (.tup xs)->c≠x:=λc xs r z=>by subst z; rw [r] at mu; exact mu
 by_cases hb:b=x
 ·subst hb; rw [aB] at q; cases q; exact new
 ·rw [aH hb] at q
  by_cases hbe:b=e
  ·have q':H b=some (.own x):=by
    rcases he with z | z
    ·exact absurd (hbe.trans z) hb
    ·rw [hbe]; exact z
   rw [q] at q'; cases q'
   obtain ⟨v,hv⟩:=heo
   exact ⟨v,by rw [hbe]; exact hv⟩
  ·refine (ok b u q).stay (λc v hc r=>k c v ?_ r) (λc r=>by rw [aH (nown c b r)]; exact r) λc xs r=>by rw [aH (ntup c xs r)]; exact r
   rcases hc with rfl | hc
   ·exact hbe
   ·rintro rfl
    rcases he with z | z
    ·exact nown c b hc z
    ·rw [hc] at z; cases z; exact hb rfl
end
structure Un (fs ex:List Addr) (H H':Hp) (h h':Heap):Prop where
 keep:∀ b o,h.get? b=some o->H b=none->b∉fs->b∉ex->h'.get? b=some o
 slot:∀ b o,h.get? b=some o->H b=none->b∈fs->b∉ex->∃ sl,h'.get? b=some { o with slots:=sl }
 free:∀ b o,h.get? b=some o->H b=none->b∉ex->H' b=none
 there:∀ b o,h.get? b=some o->b∉ex->∃ o',h'.get? b=some o'
 tups:∀ b xs,H b=some (.tup xs)->H' b=some (.tup xs)
 frzs:∀ b o u,H b=some (.frz o u)->H' b=some (.frz o u)
 tbls:∀ b ps,H b=some (.tbl ps)->∃ more,H' b=some (.tbl (ps++more))
section
variable {fs fs' ex ex':List Addr} {h1 h2:Heap} {x e:Addr} {o:HO}
theorem Un.any (u:Un fs ex H H1 h h1) (q:h.get? b=some ob) (n:H b=none) (hx:b∉ex):∃ sl,h1.get? b=some { ob with slots:=sl }:=by
 by_cases hb:b∈fs
 ·exact u.slot b ob q n hb hx
 ·exact ⟨ob.slots,u.keep b ob q n hb hx⟩
theorem Un.trans (a:Un fs ex H H1 h h1) (b:Un fs ex H1 H2 h1 h2):Un fs ex H H2 h h2 where
 keep:=λc ob q n hc hx=>b.keep c ob (a.keep c ob q n hc hx) (a.free c ob q n hx) hc hx
 slot:=λc ob q n hc hx=>by
  obtain ⟨sl,e1⟩:=a.slot c ob q n hc hx
  obtain ⟨sl',e2⟩:=b.slot c _ e1 (a.free c ob q n hx) hc hx
  exact ⟨sl',e2⟩
 free:=λc ob q n hx=>by
  obtain ⟨o',e1⟩:=a.there c ob q hx
  exact b.free c o' e1 (a.free c ob q n hx) hx
 there:=λc ob q hx=>by
  obtain ⟨o',e1⟩:=a.there c ob q hx
  exact b.there c o' e1 hx
 tups:=λc xs q=>b.tups c xs (a.tups c xs q)
 frzs:=λc ob xs q=>b.frzs c ob xs (a.frzs c ob xs q)
 tbls:=λc ps q=>by
  obtain ⟨m1,e1⟩:=a.tbls c ps q
  obtain ⟨m2,e2⟩:=b.tbls c _ e1
  exact ⟨m1++m2,by rw [e2,Array.append_assoc]⟩
theorem Un.kept (k:∀ b u,h.get? b=some u->h'.get? b=some u):Un fs ex H H h h' :=
 ⟨λb ob q _ _ _=>k b ob q,λb ob q _ _ _=>⟨ob.slots,k b ob q⟩,λ_ _ _ n _=>n,λb ob q _=>⟨ob,k b ob q⟩,λ_ _ q=>q,λ_ _ _ q=>q,λ_ ps q=>⟨#[],by rw [q]; simp⟩⟩
theorem Un.refl:Un fs ex H H h h:=Un.kept λ_ _ q=>q
theorem Un.laid (k:∀ b u,h.get? b=some u->h'.get? b=some u) (hp:h.objs.size<=a) (hn:H a=none):Un fs ex H (upd H a o) h h' where
 keep:=λb u q _ _ _=>k b u q
 slot:=λb u q _ _ _=>⟨u.slots,k b u q⟩
 free:=λb u q n _=>by rw [aH (Qz (Qx (Qm q) hp))]; exact n
 there:=λb u q _=>⟨u,k b u q⟩
 tups:=λb xs q=>by rw [aH (gK q hn)]; exact q
 frzs:=λb u xs q=>by rw [aH (gK q hn)]; exact q
 tbls:=λb ps q=>⟨#[],by rw [aH (gK q hn),q]; simp⟩
theorem Un.write (mu:Mut (H x)) (he:e=x∨H e=some (.own x)) (k:∀ b u,b≠e->h.get? b=some u->h'.get? b=some u) (heo:∃ u,h'.get? e=some u):Un fs ex H (upd H x o) h h':=by
 have hx:∀ b,H b=none->b≠x:=λb n z=>by subst z; rw [n] at mu; exact mu
 have hb:∀ b,H b=none->b≠e:=λb n z=>by
  subst z
  rcases he with r | r
  ·exact hx b n r
  ·rw [n] at r; cases r
 have hm:∀ b u,H b=some u->¬ Mut (some u)->b≠x:=λb u q nm z=>by subst z; rw [q] at mu; exact nm mu
 refine ⟨λb u q n _ _=>k b u (hb b n) q,λb u q n _ _=>⟨u.slots,k b u (hb b n) q⟩,λb u q n _=>by rw [aH (hx b n)]; exact n,λb u q _=>?_,
  λb xs q=>by rw [aH (hm b _ q λz=>z)]; exact q,λb u xs q=>by rw [aH (hm b _ q λz=>z)]; exact q,λb ps q=>⟨#[],by rw [aH (hm b _ q λz=>z),q]; simp⟩⟩
 by_cases hbe:b=e
 ·subst hbe; exact heo
 ·exact ⟨u,k b u hbe q⟩
theorem Un.mono (u:Un fs ex H H1 h h1) (hs:∀ b∈fs,b∈fs') (hx:∀ b∈ex,b∈ex'):Un fs' ex' H H1 h h1 :=
 ⟨λb ob q n hb he=>u.keep b ob q n (λz=>hb (hs b z)) λz=>he (hx b z),λ_ _ q n _ he=>u.any q n λz=>he (hx _ z),λb ob q n he=>u.free b ob q n λz=>he (hx b z),λb ob q he=>u.there b ob q λz=>he (hx b z),u.tups,u.frzs,u.tbls⟩
end
def trk (h:Heap) (H:Hp):List Addr:=(List.range h.objs.size).filter λa=>(H a).isSome
def sQ (h:Heap) (H:Hp):Heap:=PySem.W.hideAll h (trk h H)
theorem aBN (h:Heap) (H:Hp):(sQ h H).objs.size=h.objs.size:=PySem.W.hideAll_size _ _
theorem aCH (e:h.get? b=some o) (n:H b=none):(sQ h H).get? b=some o :=
 PySem.W.hideAll_get _ e λhm=>by
  have q:(H b).isSome=true:=(Jz.mp hm).2
  rw [n] at q; simp at q
theorem aEy (e:(sQ h H).get? b=some o):h.get? b=some o/\H b=none:=by
 have e':h.get? b=some o:=PySem.W.of_hideAll (trk h H) e
 refine ⟨e',?_⟩
 cases q:H b with
 | none=>rfl
 | some x =>
  have hm:b∈trk h H:=Jz.mpr ⟨Jw.mpr (Qm e'),by simp [q]⟩
  have z:(sQ h H).get? b=none:=PySem.W.hideAll_none (trk h H) hm
  rw [z] at e; cases e
def aEz (g h:Heap) (L:Addr):List (Addr×Obj):=(List.range h.objs.size).filterMap λa=>if a=L∨(g.get? a).isSome=true then none else (h.get? a).map λo=>(a,o)
def kX (g h:Heap) (L d:Addr):List (Addr×Obj):=(aEz g h L).filter λp=>decide (p.1≠d)
structure Mod (K:Rc) (mg:Str->Option Value) (base:Heap):Prop where
 kin:K.In base
 glob:base.Ns mainGlobals mg
 blt:∃ mb,base.Ns builtinsNs mb/\∀ x:Str,x ≠ "__name__" -> mb x=bootBuiltins x
 nolimit:base.NoLimit
 mods:∃ mm,base.Ns sysModules mm
structure Cx where
 prog:Program
 w:World
 K:Rc
 mg:Str->Option Value
 base:Heap
 A:Around
 N:List Str
 s0x:Shared
 H0x:Hp
 env:Env
 outer:List Env
 stack:List Env
 ex:List Addr
 fn:Str->Bool
 calm:Bool
 pn:List (Addr×Obj)
 xe:Value->Shared->Prop
end L2
variable {X Y:Cx}
namespace L2
open PySem PySem.Spec PyProof.Rows
def frs (l:List Env):List Addr:=l.filterMap (·.frame)
abbrev Cx.fs (X:Cx):List Addr:=frs X.outer
def Vis (sc:Scope) (x:Str):Prop:=sc.names.lookup x=some .local∨sc.names.lookup x=some .cell∨sc.names.lookup x=some .free
def Loc (sc:Scope) (x:Str):Prop:=sc.names.lookup x=some .local∨sc.names.lookup x=some .cell
def aGR (env:Env) (h:Heap) (m:Str->Option Value) (x:Str) (u:Value):Prop :=
 (env.kindOf x=some .local/\m x=some u)∨((env.kindOf x=some .cell∨env.kindOf x=some .free)/\∃ c,env.cells.lookup x=some c/\h.IsCell c (some u))
structure Cx.Ok (X:Cx):Prop where
 mod:Mod X.K X.mg X.base
 kind:X.env.scope.kind=.function
 glob:X.env.globals=mainGlobals
 blt:X.env.builtins=builtinsNs
 above:X.s0x.heap.objs.size<=X.env.locals
 inj:∀ x y c,X.env.cells.lookup x=some c->X.env.cells.lookup y=some c->x=y
 has:∀ x,(X.env.kindOf x=some .cell∨X.env.kindOf x=some .free)->∃ c,X.env.cells.lookup x=some c
 cab:∀ x c,X.fn x=true->X.env.cells.lookup x=some c->X.s0x.heap.objs.size<=c
 hd:X.calm=true->X.A.handled=none
 frames:X.A.frames=some X.stack
 stk:X.stack=X.outer∨(X.stack=X.env::X.outer/\X.env.frame=some X.env.locals)
 exf:∀ b∈X.ex,b≠X.env.locals/\∀ x c,X.env.cells.lookup x=some c->c≠b
 bs:∀ b o,X.base.get? b=some o->X.s0x.heap.get? b=some o/\X.H0x b=none
 bsz:X.base.objs.size<=X.s0x.heap.objs.size
 noex:∀ b o,X.base.get? b=some o->b∉X.ex
 exfs:∀ b∈X.ex,b∉X.fs
 funs:X.s0x.heap.FunFrames X.base X.outer
 frf:∀ b∈X.fs,X.H0x b=none
structure Inv (X:Cx) (pins:List (Addr×Obj)) (σ:List (Option V)) (H:Hp) (s:Shared):Prop where
 ok:X.Ok
 os:s.os=X.s0x.os
 bare:AllBare s.gens
 base:Un X.fs X.ex X.H0x H X.s0x.heap s.heap
 loc:∃ m,s.heap.Ns X.env.locals m/\∀ (i:Nat) (x:Str) (v:V),X.N[i]?=some x->σ[i]?=some (some v)->Vis X.env.scope x->∃ u,bQ v u/\aGR X.env s.heap m x u
 cell:∀ x c,X.env.cells.lookup x=some c->∃ v,s.heap.IsCell c v
 free:H X.env.locals=none
 freeC:∀ x c,X.env.cells.lookup x=some c->H c=none
 pin:∀ p∈X.pn++pins,s.heap.get? p.1=some p.2/\H p.1=none/\p.1≠X.env.locals/\p.1∉X.fs/\∀ v,p.2.data≠.cell v
 hok:HOk X.prog X.w H s.heap
 len:σ.length=X.N.length
section
variable {σ:List (Option V)}
theorem Cx.Ok.nofr (ok:X.Ok) (e:X.base.get? b=some o):b∉X.fs:=λhb=>by
 have:=(ok.funs.mem hb).1
 rw [e] at this; cases this
theorem Inv.bs (I:Inv X pins σ H s):∀ b o,X.base.get? b=some o->s.heap.get? b=some o/\H b=none:=λb o e =>
 ⟨I.base.keep b o (I.ok.bs b o e).1 (I.ok.bs b o e).2 (I.ok.nofr e) (I.ok.noex b o e),I.base.free b o (I.ok.bs b o e).1 (I.ok.bs b o e).2 (I.ok.noex b o e)⟩
theorem Inv.bk (I:Inv X pins σ H s):∀ b o,X.base.get? b=some o->s.heap.get? b=some o:=λb o e=>(I.bs b o e).1
theorem Inv.mod (I:Inv X pins σ H s):Mod X.K X.mg X.base:=I.ok.mod
theorem Inv.kIn (I:Inv X pins σ H s):X.K.In s.heap:=I.ok.mod.kin.keeps I.bk
theorem Inv.nolimit (I:Inv X pins σ H s):s.heap.NoLimit:=I.ok.mod.nolimit.keeps I.bk
theorem Inv.fr (I:Inv X pins σ H s):∃ m,Fr X.base X.env.locals s.heap m :=
 let ⟨m,hn,_⟩:=I.loc
 ⟨m,hn,I.bk,Je I.ok.bsz I.ok.above⟩
theorem Inv.lt (I:Inv X pins σ H s):X.env.locals < s.heap.objs.size:=let ⟨_,hn,_⟩:=I.loc; hn.lt
theorem Inv.sz (I:Inv X pins σ H s):X.s0x.heap.objs.size<=s.heap.objs.size:=Je I.ok.above (Yo I.lt)
theorem Inv.nofs (I:Inv X pins σ H s) (h:s.heap.objs.size<=a):a∉X.fs:=λhb=>by
 obtain ⟨_,o,ho,_⟩:=I.ok.funs.mem hb
 exact absurd (Qx (Qm ho) (Je I.sz h)) (Ju _)
theorem Inv.cne (I:Inv X pins σ H s):∀ x c,X.env.cells.lookup x=some c->c≠X.env.locals:=λx c e z=>by
 obtain ⟨v,o,ho,hd⟩:=I.cell x c e
 obtain ⟨m,⟨o',es,ep,ho',hd',_⟩,_⟩:=I.loc
 rw [z,ho'] at ho; cases ho; rw [hd'] at hd; cases hd
theorem Inv.funs (I:Inv X pins σ H s):s.heap.FunFrames X.base X.outer:=by
 have all:∀ (l:List Env),(∀ b∈frs l,b∈X.fs)->X.s0x.heap.FunFrames X.base l->s.heap.FunFrames X.base l:=by
  intro l
  induction l with
  | nil=>intro _ _; trivial
  | cons env r ih =>
   intro hs hl
   obtain ⟨hk,⟨L,o,hf,hn,ho,hd⟩,hr⟩:=hl
   have hL:L∈X.fs:=hs L (by unfold frs; rw [Zp,hf]; exact Qj)
   obtain ⟨sl,e⟩:=I.base.slot L o ho (I.ok.frf L hL) hL λz=>I.ok.exfs L z hL
   exact ⟨hk,⟨L,_,hf,hn,e,hd⟩,ih (λb hb=>hs b (by unfold frs; rw [Zp,hf]; exact Qk _ hb)) hr⟩
 exact all X.outer (λ_ hb=>hb) I.ok.funs
theorem Inv.stack (I:Inv X pins σ H s):s.heap.FunFrames X.base X.stack:=by
 rcases I.ok.stk with e | ⟨e,hf⟩
 ·rw [e]; exact I.funs
 ·rw [e]
  obtain ⟨m,hn,_⟩:=I.loc
  refine .cons (by rw [I.ok.kind]; decide) hf hn ?_ I.funs
  exact Heap.get?_none_of_le (Je I.ok.bsz I.ok.above)
theorem Inv.stkSub (I:Inv X pins σ H s):∀ b∈frs X.stack,b∈X.env.locals::X.fs:=λb hb=>by
 rcases I.ok.stk with e | ⟨e,hf⟩
 ·rw [e] at hb; exact Qk _ hb
 ·rw [e] at hb
  unfold frs at hb
  rw [Zp,hf] at hb
  exact hb
theorem Inv.stkFree (I:Inv X pins σ H s):∀ b∈frs X.stack,H b=none:=λb hb=>by
 rcases Qn.mp (I.stkSub b hb) with e | hb
 ·rw [e]; exact I.free
 ·obtain ⟨_,o,ho,_⟩:=I.ok.funs.mem hb
  exact I.base.free b o ho (I.ok.frf b hb) λz=>I.ok.exfs b z hb
theorem Inv.step {g':Array GenState} {d':Drawn} (I:Inv X pins σ H s) (hch:∀ b∈ch,(b∈X.ex∨X.s0x.heap.objs.size<=b)/\b≠X.env.locals/\(∀ x c,X.env.cells.lookup x=some c->c≠b)/\∀ p∈X.pn++pins,p.1≠b) (keep:∀ b o,b≠X.env.locals->b∉X.fs->b∉ch->s.heap.get? b=some o->H b=none->h'.get? b=some o) (slot:∀ b o,b≠X.env.locals->b∈X.fs->b∉ch->s.heap.get? b=some o->H b=none->∃ sl,h'.get? b=some { o with slots:=sl }) (free:∀ b o,b∉ch->s.heap.get? b=some o->H b=none->H' b=none) (there:∀ b o,b∉ch->s.heap.get? b=some o->∃ o',h'.get? b=some o') (tups:∀ b xs,H b=some (.tup xs)->H' b=some (.tup xs)) (frzs:∀ b o u,H b=some (.frz o u)->H' b=some (.frz o u)) (tbls:∀ b ps,H b=some (.tbl ps)->∃ more,H' b=some (.tbl (ps++more))) (ns:∀ m,s.heap.Ns X.env.locals m->h'.Ns X.env.locals m) (hok:HOk X.prog X.w H' h') (hg:AllBare g') :
  Inv X pins σ H' { s with heap:=h',gens:=g',drawn:=d',toks:=t' }:=by
 have neL:∀ b o,X.s0x.heap.get? b=some o->b≠X.env.locals:=λb o e=>Qz (Qx (Qm e) I.ok.above)
 have neC:∀ b o,X.s0x.heap.get? b=some o->b∉X.ex->b∉ch:=λb o e hx hb=>by
  rcases (hch b hb).1 with z | z
  ·exact hx z
  ·exact absurd (Qx (Qm e) z) (Ju _)
 have cellK:∀ x c,X.env.cells.lookup x=some c->∀ v,s.heap.IsCell c v->h'.IsCell c v:=λx c e v ⟨o,ho,hd⟩=>by
  have nch:c∉ch:=λz=>(hch c z).2.2.1 x c e rfl
  by_cases hc:c∈X.fs
  ·obtain ⟨sl,q⟩:=slot c o (I.cne x c e) hc nch ho (I.freeC x c e)
   exact ⟨_,q,hd⟩
  ·exact ⟨o,keep c o (I.cne x c e) hc nch ho (I.freeC x c e),hd⟩
 refine ⟨I.ok,I.os,hg,⟨λb o e n hb hx=>?_,λb o e n hb hx=>?_,λb o e n hx=>?_,λb o e hx=>?_,λb xs e=>tups b xs (I.base.tups b xs e),λb o xs e=>frzs b o xs (I.base.frzs b o xs e),λb ps e=>?_⟩,?_,λx c e=>?_,?_,λx c e=>?_,λp hp=>?_,hok,I.len⟩
 ·exact keep b o (neL b o e) hb (neC b o e hx) (I.base.keep b o e n hb hx) (I.base.free b o e n hx)
 ·obtain ⟨sl,e1⟩:=I.base.slot b o e n hb hx
  obtain ⟨sl',e2⟩:=slot b _ (neL b o e) hb (neC b o e hx) e1 (I.base.free b o e n hx)
  exact ⟨sl',e2⟩
 ·obtain ⟨o',e1⟩:=I.base.there b o e hx
  exact free b o' (neC b o e hx) e1 (I.base.free b o e n hx)
 ·obtain ⟨o',e1⟩:=I.base.there b o e hx
  exact there b o' (neC b o e hx) e1
 ·obtain ⟨m1,e1⟩:=I.base.tbls b ps e
  obtain ⟨m2,e2⟩:=tbls b _ e1
  exact ⟨m1++m2,by rw [e2,Array.append_assoc]⟩
 ·obtain ⟨m,hn,hl⟩:=I.loc
  refine ⟨m,ns m hn,λi x v e1 e2 e3=>?_⟩
  obtain ⟨u,r,l⟩:=hl i x v e1 e2 e3
  refine ⟨u,r,?_⟩
  rcases l with l | ⟨k,c,e,z⟩
  ·exact .inl l
  ·exact .inr ⟨k,c,e,cellK x c e _ z⟩
 ·obtain ⟨v,z⟩:=I.cell x c e
  exact ⟨v,cellK x c e v z⟩
 ·obtain ⟨m,⟨o,_,_,ho,_⟩,_⟩:=I.loc
  exact free _ o (λz=>(hch _ z).2.1 rfl) ho I.free
 ·obtain ⟨v,o,ho,hd⟩:=I.cell x c e
  exact free c o (λz=>(hch c z).2.2.1 x c e rfl) ho (I.freeC x c e)
 ·obtain ⟨e,n,ne,nf,d⟩:=I.pin p hp
  have nch:p.1∉ch:=λz=>(hch p.1 z).2.2.2 p hp rfl
  exact ⟨keep p.1 p.2 ne nf nch e n,free p.1 p.2 nch e n,ne,nf,d⟩
theorem Inv.un (I:Inv X pins σ H s) (u:Un X.fs [] H H' s.heap h') (hok:HOk X.prog X.w H' h'):Inv X pins σ H' { s with heap:=h',toks:=t' }:=by
 obtain ⟨m,⟨o,es,ep,ho,r⟩,_⟩:=id I.loc
 obtain ⟨sl,hL⟩:=u.any ho I.free (by simp)
 exact I.step (g':=s.gens) (d':=s.drawn) (ch:=[]) (λ_ z=>nomatch z) (λb o _ hb _ e n=>u.keep b o e n hb (by simp)) (λb o _ hb _ e n=>u.slot b o e n hb (by simp)) (λb o _ e n=>u.free b o e n (by simp)) (λb o _ e=>u.there b o e (by simp)) u.tups u.frzs u.tbls (λm' hm=>by
  obtain ⟨o',es',ep',ho',r'⟩:=hm
  rw [ho] at ho'; cases ho'
  exact ⟨_,es',ep',hL,r'⟩) hok I.bare
theorem Inv.call {g':Array GenState} {d':Drawn} (I:Inv X pins σ H s) (u:Un (frs X.stack) ch H H' s.heap h') (hok:HOk X.prog X.w H' h') (hg:AllBare g') (hch:∀ b∈ch,(b∈X.ex∨X.s0x.heap.objs.size<=b)/\b≠X.env.locals/\(∀ x c,X.env.cells.lookup x=some c->c≠b)/\∀ p∈X.pn++pins,p.1≠b) :
  Inv X pins σ H' { s with heap:=h',gens:=g',drawn:=d',toks:=t' }:=by
 obtain ⟨m,⟨o,es,ep,ho,r⟩,_⟩:=id I.loc
 obtain ⟨sl,hL⟩:=u.any ho I.free λz=>(hch _ z).2.1 rfl
 exact I.step (ch:=ch) hch (λb o hL hb hc e n=>u.keep b o e n (λz=>(Qn.mp (I.stkSub b z)).elim hL hb) hc) (λb o _ _ hc e n=>u.any e n hc) (λb o hc e n=>u.free b o e n hc) (λb o hc e=>u.there b o e hc) u.tups u.frzs u.tbls (λm' hm=>by
  obtain ⟨o',es',ep',ho',r'⟩:=hm
  rw [ho] at ho'; cases ho'
  exact ⟨_,es',ep',hL,r'⟩) hok hg
theorem Inv.turned (I:Inv X pins σ H s) (k:∀ b o,b≠it->s.heap.get? b=some o->h'.get? b=some o) (hn:H it=none) (hL:it≠X.env.locals) (h1:it∈X.ex∨X.s0x.heap.objs.size<=it) (h2:∀ x c,X.env.cells.lookup x=some c->c≠it) (h3:∀ p∈X.pn++pins,p.1≠it):Inv X pins σ H { s with heap:=h',toks:=t' }:=by
 have nit:∀ b u,H b=some u->b≠it:=λb u e z=>by rw [z,hn] at e; cases e
 refine I.step (g':=s.gens) (d':=s.drawn) (ch:=[it]) (λb hb=>?_) (λb o _ _ hc e _=>k b o (λz=>hc (by simp [z])) e) (λb o _ _ hc e _=>⟨o.slots,k b o (λz=>hc (by simp [z])) e⟩) (λ_ _ _ _ n=>n)
  (λb o hc e=>⟨o,k b o (λz=>hc (by simp [z])) e⟩) (λ_ _ e=>e) (λ_ _ _ e=>e) (λb ps e=>⟨#[],by rw [e]; simp⟩) (λm hm=>?_) (λb u e=>?_) I.bare
 ·have e:b=it:=by simpa using hb
  subst e
  exact ⟨h1,hL,h2,h3⟩
 ·obtain ⟨o,es,ep,ho,r⟩:=hm
  exact ⟨o,es,ep,k _ o (Ne.symm hL) ho,r⟩
 ·refine (I.hok b u e).stay (λc v hc q=>k c v ?_ q) (λ_ q=>q) λ_ _ q=>q
  rcases hc with z | z
  ·rw [z]; exact nit b u e
  ·exact nit c _ z
theorem Inv.tok (I:Inv X pins σ H s) (t:Nat):Inv X pins σ H { s with toks:=t }:=I.un (h':=s.heap) (t':=t) Un.refl I.hok
theorem Inv.kept (I:Inv X pins σ H s) (k:∀ b u,s.heap.get? b=some u->h'.get? b=some u):Inv X pins σ H { s with heap:=h',toks:=t' }:=I.un (Un.kept k) (I.hok.kept k)
theorem Inv.laid {o:HO} (I:Inv X pins σ H s) (k:∀ b u,s.heap.get? b=some u->h'.get? b=some u) (hp:s.heap.objs.size<=a) (new:bN X.prog X.w (upd H a o) h' a o) :
  Inv X pins σ (upd H a o) { s with heap:=h',toks:=t' }:=I.un (Un.laid k hp (I.hok.fresh hp)) (I.hok.laid k hp new)
theorem Inv.write {x e:Addr} {o:HO} (I:Inv X pins σ H s) (mu:Mut (H x)) (he:e=x∨H e=some (.own x)) (k:∀ b u,b≠e->s.heap.get? b=some u->h'.get? b=some u) (heo:∃ u,h'.get? e=some u) (new:bN X.prog X.w (upd H x o) h' x o):Inv X pins σ (upd H x o) { s with heap:=h',toks:=t' }:=I.un (Un.write mu he k heo) (I.hok.write mu he k heo new)
theorem Inv.pins_of {pins':List (Addr×Obj)} (I:Inv X pins σ H s) (h:∀ p∈pins',s.heap.get? p.1=some p.2/\H p.1=none/\p.1≠X.env.locals/\p.1∉X.fs/\∀ v,p.2.data≠.cell v):Inv X pins' σ H s :=
 ⟨I.ok,I.os,I.bare,I.base,I.loc,I.cell,I.free,I.freeC,λp hp=>(Jh.mp hp).elim (λz=>I.pin p (Jv _ z)) (h p),I.hok,I.len⟩
theorem wP (hN:N.Nodup) {i:Nat} {x:Str} (a:N[i]?=some x) (b:N[j]?=some x):i=j:=by
 obtain ⟨h1,e1⟩:=Qd.mp a
 obtain ⟨h2,e2⟩:=Qd.mp b
 exact (List.getElem_inj hN).mp (e1.trans e2.symm)
theorem tL {i:Nat} {x:Str} {Q:Unit->Shared->Prop} (I:Inv X pins σ H s) (hN:X.N.Nodup) (hi:X.N[i]?=some x) (hx:Loc X.env.scope x) (r:bQ v u) (h:∀ s',Inv X pins (σ.set i (some v)) H s'->(∃ a,Heap.SameBut a s.heap s'.heap/\(a=X.env.locals∨X.env.cells.lookup x=some a))->Q () s') (hf:X.fn x=true∨X.env.scope.names.lookup x=some .local:=by first | exact .inl rfl | exact .inr rfl | assumption):wpAny M A (storeName X.env x u) Q E s:=by
 obtain ⟨m,hn,hl⟩:=id I.loc
 have hcls:(X.env.scope.kind==.class || (X.env.scope.kind==.module && X.env.locals !=X.env.globals))=false:=by rw [I.ok.kind]; rfl
 have hiσ:i < σ.length:=by rw [I.len]; exact (Qd.mp hi).1
 have cne:=I.cne
 have tracked:∀ {a:Addr} {h':Heap},(∃ o,s.heap.get? a=some o/\H a=none)->Heap.SameBut a s.heap h'->HOk X.prog X.w H h':=λ{a h'} ha hs b ob e=>by
  obtain ⟨_,_,hfree⟩:=ha
  refine (I.hok b ob e).stay (λc w' hc q=>(hs.2 c ?_).trans q) (λ_ q=>q) λ_ _ q=>q
  rintro rfl
  rcases hc with rfl | hc
  ·rw [hfree] at e; cases e
  ·rw [hfree] at hc; cases hc
 rcases hx with hk | hk
 ·refine wpAny_storeName_local hk hn (λh' hn' hs=>?_) hcls
  obtain ⟨oL,_,_,hoL,_⟩:=id hn
  refine h _ ⟨I.ok,I.os,I.bare,⟨λb o e n hb hx=>?_,λb o e n hb hx=>?_,I.base.free,λb o e hx=>?_,I.base.tups,I.base.frzs,I.base.tbls⟩,⟨_,hn',λj y v' e1 e2 e3=>?_⟩,λy c e=>?_,I.free,I.freeC,λp hp=>?_,tracked ⟨oL,hoL,I.free⟩ hs,by simpa using I.len⟩ ⟨_,hs,.inl rfl⟩
  ·exact (hs.2 b (Qz (Qx (Qm e) I.ok.above))).trans (I.base.keep b o e n hb hx)
  ·obtain ⟨sl,e1⟩:=I.base.slot b o e n hb hx
   exact ⟨sl,(hs.2 b (Qz (Qx (Qm e) I.ok.above))).trans e1⟩
  ·obtain ⟨o',e1⟩:=I.base.there b o e hx
   exact ⟨o',(hs.2 b (Qz (Qx (Qm e) I.ok.above))).trans e1⟩
  ·by_cases hj:j=i
   ·subst hj
    rw [hi] at e1; cases e1
    rw [Wp hiσ] at e2
    cases e2
    exact ⟨u,r,.inl ⟨hk,by simp⟩⟩
   ·rw [Yt (Ne.symm hj)] at e2
    obtain ⟨u',r',q⟩:=hl j y v' e1 e2 e3
    refine ⟨u',r',?_⟩
    rcases q with ⟨k,e⟩ | ⟨k,c,e,z⟩
    ·refine .inl ⟨k,?_⟩
     have:y≠x:=λe=>hj (wP hN e1 (e ▸ hi))
     simp [this,e]
    ·exact .inr ⟨k,c,e,z.sameBut hs (cne y c e)⟩
  ·obtain ⟨w',z⟩:=I.cell y c e
   exact ⟨w',z.sameBut hs (cne y c e)⟩
  ·obtain ⟨e,n,ne,nf,d⟩:=I.pin p hp
   exact ⟨(hs.2 p.1 ne).trans e,n,ne,nf,d⟩
 ·have hfn:X.fn x=true:=by
   rcases hf with z | z
   ·exact z
   ·rw [z] at hk; cases hk
  obtain ⟨c,hc⟩:=I.ok.has x (.inl hk)
  obtain ⟨w',z⟩:=I.cell x c hc
  refine wpAny_storeName_cell I.ok.kind hk hc z (λh' hc' hs=>?_)
  obtain ⟨oc,hoc,hocd⟩:=id z
  refine h { s with heap:=h' } ⟨I.ok,I.os,I.bare,⟨λb o e n hb hx=>?_,λb o e n hb hx=>?_,I.base.free,λb o e hx=>?_,I.base.tups,I.base.frzs,I.base.tbls⟩,⟨m,hn.sameBut hs (Ne.symm (cne x c hc)),λj y v' e1 e2 e3=>?_⟩,λy c' e=>?_,I.free,I.freeC,λp hp=>?_,tracked ⟨oc,hoc,I.freeC x c hc⟩ hs,by simpa using I.len⟩ ⟨c,hs,.inr hc⟩
  ·exact (hs.2 b (Qz (Qx (Qm e) (I.ok.cab x c hfn hc)))).trans (I.base.keep b o e n hb hx)
  ·obtain ⟨sl,e1⟩:=I.base.slot b o e n hb hx
   exact ⟨sl,(hs.2 b (Qz (Qx (Qm e) (I.ok.cab x c hfn hc)))).trans e1⟩
  ·obtain ⟨o',e1⟩:=I.base.there b o e hx
   exact ⟨o',(hs.2 b (Qz (Qx (Qm e) (I.ok.cab x c hfn hc)))).trans e1⟩
  ·by_cases hj:j=i
   ·subst hj
    rw [hi] at e1; cases e1
    rw [Wp hiσ] at e2
    cases e2
    exact ⟨u,r,.inr ⟨.inl hk,c,hc,hc'⟩⟩
   ·rw [Yt (Ne.symm hj)] at e2
    obtain ⟨u',r',q⟩:=hl j y v' e1 e2 e3
    refine ⟨u',r',?_⟩
    rcases q with q | ⟨k,c',e,z'⟩
    ·exact .inl q
    ·refine .inr ⟨k,c',e,z'.sameBut hs ?_⟩
     rintro rfl
     exact hj (wP hN e1 (I.ok.inj _ _ _ e hc ▸ hi))
  ·by_cases hcc:c'=c
   ·subst hcc; exact ⟨_,hc'⟩
   ·obtain ⟨w2,z2⟩:=I.cell y c' e
    exact ⟨w2,z2.sameBut hs hcc⟩
  ·obtain ⟨e,n,ne,nf,d⟩:=I.pin p hp
   refine ⟨(hs.2 p.1 ?_).trans e,n,ne,nf,d⟩
   intro q
   rw [q,hoc] at e
   have q':oc=p.2:=Option.some.inj e
   exact d w' (by rw [<- q']; exact hocd)
theorem wQ {i:Nat} {x:Str} {Q:Unit->Shared->Prop} (I:Inv X pins σ H s) (hN:X.N.Nodup) (hi:X.N[i]?=some x) (hx:Loc X.env.scope x) (r:bQ v u) (h:∀ s',Inv X pins (σ.set i (some v)) H s'->Q () s') (hf:X.fn x=true∨X.env.scope.names.lookup x=some .local:=by first | exact .inl rfl | exact .inr rfl | assumption):wpAny M A (storeName X.env x u) Q E s :=
 tL I hN hi hx r (λs' I' _=>h s' I') hf
theorem Inv.call' (I:Inv X pins σ H s) (ho:s'.os=s.os) (u:Un (frs X.stack) ch H H' s.heap s'.heap) (hok:HOk X.prog X.w H' s'.heap) (hg:AllBare s'.gens) (hch:∀ b∈ch,(b∈X.ex∨X.s0x.heap.objs.size<=b)/\b≠X.env.locals/\(∀ x c,X.env.cells.lookup x=some c->c≠b)/\∀ p∈X.pn++pins,p.1≠b):Inv X pins σ H' s':=by
 obtain ⟨h',g',d',t',o'⟩:=s'
 have e:o'=s.os:=ho
 subst e
 exact I.call (g':=g') (t':=t') (d':=d') u hok hg hch
end
abbrev XK:=Value->Option Addr->Hp->Prop
abbrev St:=List (Option V)
abbrev VK:=V->Hp->Prop
abbrev TE:=St->Hp->VK->Prop
end L2
variable {ta te to tl tk tv ts td:TE}
namespace L2
open PySem PySem.Spec PyProof.Rows
abbrev TT:=St->Hp->(Bool->Hp->Prop)->Prop
end L2
variable {tt:TT}
namespace L2
open PySem PySem.Spec PyProof.Rows
abbrev TA:=St->Hp->(List V->Hp->Prop)->Prop
end L2
variable {tr:TA}
namespace L2
open PySem PySem.Spec PyProof.Rows
structure Ends where
 nx:St->Hp->Prop
 rt:VK
 bk:St->Hp->Prop:=λ_ _=>False
 ct:St->Hp->Prop:=λ_ _=>False
abbrev TS:=Ends->St->Hp->Prop
end L2
variable {tb:TS}
namespace L2
open PySem PySem.Spec PyProof.Rows
def EP (X:Cx) (pins:List (Addr×Obj)) (σ:St) (Q:VK) (u:Value) (s':Shared):Prop:=∃ v H',Inv X pins σ H' s'/\bQ v u/\Q v H'
def TP (X:Cx) (pins:List (Addr×Obj)) (σ:St) (Q:Bool->Hp->Prop) (b:Bool) (s':Shared):Prop:=∃ H',Inv X pins σ H' s'/\Q b H'
def AP (X:Cx) (pins:List (Addr×Obj)) (σ:St) (Q:List V->Hp->Prop) (us:List Value) (s':Shared):Prop:=∃ vs H',Inv X pins σ H' s'/\bK vs us/\Q vs H'
def SP (X:Cx) (pins:List (Addr×Obj)) (D:Ends) (f:Flow) (s':Shared):Prop :=
 match f with
 | .next=>∃ σ' H',Inv X pins σ' H' s'/\D.nx σ' H'
 | .brk=>∃ σ' H',Inv X pins σ' H' s'/\D.bk σ' H'
 | .cont=>∃ σ' H',Inv X pins σ' H' s'/\D.ct σ' H'
 | .ret u=>∃ v σ' H',Inv X pins σ' H' s'/\bQ v u/\D.rt v H'
def PE (X:Cx) (e:Expr) (t:TE):Prop :=
 ∀ (pins:List (Addr×Obj)) (s:Shared) (σ:St) (H:Hp) (Q:VK),Inv X pins σ H s->t σ H Q->wpAny (model X.prog X.w) X.A (eval e X.env) (EP X pins σ Q) X.xe s
def PT (X:Cx) (e:Expr) (t:TT):Prop :=
 ∀ (pins:List (Addr×Obj)) (s:Shared) (σ:St) (H:Hp) (Q:Bool->Hp->Prop),Inv X pins σ H s->t σ H Q->wpAny (model X.prog X.w) X.A (isTrue e X.env (eval e X.env)) (TP X pins σ Q) X.xe s
def PW (X:Cx) (e:Expr) (t:TT):Prop :=
 ∀ (whole:Sem Value) (pins:List (Addr×Obj)) (s:Shared) (σ:St) (H:Hp) (Q:Bool->Hp->Prop),Inv X pins σ H s->t σ H Q->wpAny (model X.prog X.w) X.A (isTrue e X.env whole) (TP X pins σ Q) X.xe s
theorem PW.pt {t:TT} (h:PW X e t):PT X e t:=h _
def PA (X:Cx) (es:List Expr) (t:TA):Prop :=
 ∀ (pos:Pos) (pins:List (Addr×Obj)) (s:Shared) (σ:St) (H:Hp) (Q:List V->Hp->Prop),Inv X pins σ H s->t σ H Q->wpAny (model X.prog X.w) X.A (spliced (backTo pos (starEach es X.env))) (AP X pins σ Q) X.xe s
def PS (X:Cx) (st:Stmt) (t:TS):Prop :=
 ∀ (pins:List (Addr×Obj)) (s:Shared) (σ:St) (H:Hp) (D:Ends),Inv X pins σ H s->t D σ H->wpAny (model X.prog X.w) X.A (exec st X.env) (SP X pins D) X.xe s
def PSs (X:Cx) (st:List Stmt) (t:TS):Prop :=
 ∀ (pins:List (Addr×Obj)) (s:Shared) (σ:St) (H:Hp) (D:Ends),Inv X pins σ H s->t D σ H->wpAny (model X.prog X.w) X.A (execs st X.env) (SP X pins D) X.xe s
theorem thn {t:Sem α} {Q Q':α->Shared->Prop} (h:wpAny M A t Q E s) (hQ:∀ a s,Q a s->Q' a s):wpAny M A t Q' E s:=Rn h hQ λ_ _ x=>x
section
def aBO (i:Nat):TE:=λσ H Q=>∃ v,σ[i]?=some (some v)/\Q v H
abbrev tC (v:V):TE:=λ_ H Q=>Q v H
theorem aFZ {i:Nat} {x:Str} (hN:X.N[i]?=some x) (hv:Vis X.env.scope x) (hd:(x==("__debug__" : Str))=false:=by decide) (hcd:(x==("__classdict__" : Str))=false:=by decide):PE X (.Name x pos) (aBO i):=by
 intro pins s σ H Q I h
 obtain ⟨v,e,h⟩:=h
 obtain ⟨m,hn,hl⟩:=I.loc
 obtain ⟨u,r,l⟩:=hl i x v hN e hv
 have fin:EP X pins σ Q u s:=⟨v,H,I,r,h⟩
 rcases l with ⟨hk,hm⟩ | ⟨hk,c,hc,hcell⟩
 ·exact Ik (Rao I.ok.kind hk hn hm fin) hd
 ·rcases hk with hk | hk
  ·exact Ik (wpAny_loadName_cell I.ok.kind hk hc hcell fin) hd
  ·exact Ik (Rav I.ok.kind hk hc hcell fin hcd) hd
theorem aI {i j pos}:PE X (.Constant (.int i) j pos) (tC (.int i)):=λ_ _ _ H _ I h=>wpAny_Constant_int ⟨.int i,H,I.tok _,⟨_,rfl⟩,h⟩
theorem iE {b j pos}:PE X (.Constant (.bool b) j pos) (tC (.bl b)):=λ_ _ _ H _ I h=>Constant_bool ⟨.bl b,H,I,rfl,h⟩
theorem aF0 {j pos}:PE X (.Constant .none j pos) (tC .non):=λ_ _ _ H _ I h=>Constant_none ⟨.non,H,I,rfl,h⟩
theorem zL {x j pos}:PE X (.Constant (.str x) j pos) (tC (.str x)):=λ_ _ _ H _ I h=>Calls.Constant_str ⟨.str x,H,I.tok _,⟨_,rfl⟩,h⟩
def Gl (X:Cx) (x:Str):Prop:=X.env.kindOf x=some .globalImplicit
theorem aAP {σ:St} {x:Str} (I:Inv X pins σ H s) (hg:Gl X x) (hm:X.mg x=some u) (h:Q u s) (hd:(x==("__debug__" : Str))=false:=by decide):wpAny (model X.prog X.w) X.A (eval (.Name x pos) X.env) Q E s :=
 Calls.Name_function_global I.ok.kind hg (Calls.loadGlobal_global (by rw [I.ok.glob]; exact I.mod.glob.keeps I.bk) hm h) hd
theorem iU {σ:St} {x:Str} (I:Inv X pins σ H s) (hg:Gl X x) (hm:X.mg x=none) (hv:bootBuiltins x=some u) (h:Q u s) (hn:x ≠ "__name__" := by decide) (hd:(x==("__debug__" : Str))=false:=by decide):wpAny (model X.prog X.w) X.A (eval (.Name x pos) X.env) Q E s:=by
 obtain ⟨mb,h1,h2⟩:=I.mod.blt
 exact Calls.Name_function_global I.ok.kind hg (Calls.loadGlobal_builtin (by rw [I.ok.glob]; exact I.mod.glob.keeps I.bk) hm (by rw [I.ok.blt]; exact h1.keeps I.bk) ((h2 x hn).trans hv) h) hd
theorem aAQ {x:Str} (hg:Gl X x) (hm:X.mg x=some u) (r:bQ v u) (hd:(x==("__debug__" : Str))=false:=by decide):PE X (.Name x pos) (tC v) :=
 λ_ _ _ H _ I h=>aAP I hg hm ⟨v,H,I,r,h⟩ hd
theorem dQ {x:Str} (hg:Gl X x) (hm:X.mg x=none) (hv:bootBuiltins x=some u) (r:bQ v u) (hn:x ≠ "__name__" := by decide) (hd:(x==("__debug__" : Str))=false:=by decide):PE X (.Name x pos) (tC v) :=
 λ_ _ _ H _ I h=>iU I hg hm hv ⟨v,H,I,r,h⟩ hn hd
variable {a b:Expr} {tb:TE}
def PC (X:Cx) (op:CmpOp) (a b:Expr) (t:TE):Prop :=
 ∀ (pins:List (Addr×Obj)) (s:Shared) (σ:St) (H:Hp) (Q:VK),Inv X pins σ H s->t σ H Q ->
  wpAny (model X.prog X.w) X.A (eval a X.env) (λv s1x=>wpAny (model X.prog X.w) X.A (eval b X.env) (λu s2x=>wpAny (model X.prog X.w) X.A (compareOp op v u) (EP X pins σ Q) X.xe s2x) X.xe s1x) X.xe s
theorem aCI (b:Expr) (h:op≠.In) (h2:op≠.NotIn):behindInMarks op b=false:=by
 have e1:(op==CmpOp.In)=false:=by cases op <;> first | rfl | exact absurd rfl h
 have e2:(op==CmpOp.NotIn)=false:=by cases op <;> first | rfl | exact absurd rfl h2
 cases b <;> simp [behindInMarks,e1,e2]
def aGS (ta:TE):TE:=λσ H Q=>ta σ H λx H1=>Q (.bl (!decide (x=.non))) H1
theorem bQ.none_iff {v:Value} (r:bQ x v):(v==Value.none)=decide (x=.non):=by
 cases x with
 | non=>cases r; rfl
 | bl _=>cases r; rfl
 | int _=>obtain ⟨t,rfl⟩:=r; rfl
 | str _=>obtain ⟨t,rfl⟩:=r; rfl
 | byt _=>obtain ⟨t,rfl⟩:=r; rfl
 | flt _=>obtain ⟨t,rfl⟩:=r; rfl
 | ref _=>cases r; rfl
 | ty _=>cases r; rfl
theorem aEA {j pos'} (ha:PE X a ta):PC X .IsNot a (.Constant .none j pos') (aGS ta):=by
 intro pins s σ H Q I h
 refine thn (ha pins s σ H _ I h) λv s1 hx9=>?_
 obtain ⟨x,H1,I1,r1,q1⟩:=hx9
 exact Constant_none (isnot_none_gen ⟨.bl _,H1,I1,by rw [r1.none_iff]; rfl,q1⟩)
def tB (t:TE):TT:=λσ H Q=>t σ H λx H1=>∃ c,x=.bl c/\Q c H1
theorem aCJ {t:TE} (h:PC X op a b t) (h1:behindInMarks op b=false:=by first | exact aCI _ (by decide) (by decide) | rfl):PT X (.Compare a [op] [b] pos) (tB t):=by
 intro pins s σ H Q I hw
 refine Raj (thn (h pins s σ H _ I hw) λv s1 h1=>thn h1 λu s2 h2=>thn h2 λc s3 hx9=>?_) h1
 obtain ⟨x,H1,I1,r1,q1⟩:=hx9
 obtain ⟨d,rfl,q⟩:=q1
 cases r1
 exact Rt ⟨H1,I1,q⟩
theorem eC {t:TE} (h:PE X e t) (he:∀ whole,isTrue e X.env whole=(do let v<-whole; standAt e.pos; holding [v] (truthy v)):=by intro _; rfl):PT X e (tB t):=by
 intro pins s σ H Q I hw
 refine isTrue_plain (thn (h pins s σ H _ I hw) λv s1 hx9=>?_) (he _)
 obtain ⟨x,H1,I1,r1,q1⟩:=hx9
 obtain ⟨d,rfl,q⟩:=q1
 cases r1
 exact Rt ⟨H1,I1,q⟩
variable {tA tB':TT} {kX:List Expr}
def aGT (t u:TT):TT:=λσ H Q=>t σ H λc H1=>if c=true then u σ H1 Q else Q false H1
def tOr (t u:TT):TT:=λσ H Q=>t σ H λc H1=>if c=true then Q true H1 else u σ H1 Q
def aHE (t:TT):TT:=λσ H Q=>t σ H λc H1=>Q (!c) H1
theorem uT (ha:PT X a tA):PW X (.BoolOp .And [a] pos) tA:=by
 intro wh pins s σ H Q I h
 refine isTrue_and (thn (ha pins s σ H Q I h) λc s1 e=>?_)
 cases c with
 | true=>exact isTrue_and_nil e
 | false=>exact e
theorem gL (ha:PT X a tA):PW X (.BoolOp .Or [a] pos) tA:=by
 intro wh pins s σ H Q I h
 refine isTrue_or (thn (ha pins s σ H Q I h) λc s1 e=>?_)
 cases c with
 | false=>exact isTrue_or_nil e
 | true=>exact e
theorem zM (ha:PT X a tA) (hb:PW X (.BoolOp .And (b::kX) pos) tB'):PW X (.BoolOp .And (a::b::kX) pos) (aGT tA tB'):=by
 intro wh pins s σ H Q I h
 refine isTrue_and (thn (ha pins s σ H _ I h) λc s1 hx9=>?_)
 obtain ⟨H1,I1,q1⟩:=hx9
 cases c with
 | true=>exact hb wh pins s1 σ H1 Q I1 q1
 | false=>exact ⟨H1,I1,q1⟩
theorem jB (ha:PT X a tA) (hb:PW X (.BoolOp .Or (b::kX) pos) tB'):PW X (.BoolOp .Or (a::b::kX) pos) (tOr tA tB'):=by
 intro wh pins s σ H Q I h
 refine isTrue_or (thn (ha pins s σ H _ I h) λc s1 hx9=>?_)
 obtain ⟨H1,I1,q1⟩:=hx9
 cases c with
 | true=>exact ⟨H1,I1,q1⟩
 | false=>exact hb wh pins s1 σ H1 Q I1 q1
theorem eO (ha:PT X a tA):PT X (.UnaryOp .Not a pos) (aHE tA):=by
 intro pins s σ H Q I h
 exact isTrue_not (ha pins s σ H (λc H1=>Q (!c) H1) I h)
def aGU (ta tb:TE):TE:=λσ H Q=>ta σ H λx H1=>∃ c,x=.bl c/\if c=true then tb σ H1 Q else Q (.bl false) H1
def aGV (ta:TE):TE:=λσ H Q=>ta σ H λx H1=>∃ c,x=.bl c/\Q (.bl (!c)) H1
theorem mT {op} {t:TE} (h:PE X a t):PE X (.BoolOp op [a] pos) t:=λpins s σ H Q I hw=>BoolOp_one (h pins s σ H Q I hw)
theorem kF (ha:PE X a ta) (hb:PE X (.BoolOp .And (b::kX) pos) tb):PE X (.BoolOp .And (a::b::kX) pos) (aGU ta tb):=by
 intro pins s σ H Q I h
 refine BoolOp_and (thn (ha pins s σ H _ I h) λv s1 hx9=>?_)
 obtain ⟨x,H1,I1,r1,q1⟩:=hx9
 obtain ⟨c,rfl,q1⟩:=q1
 cases r1
 refine Rt ?_
 cases c with
 | true=>exact hb pins s1 σ H1 Q I1 q1
 | false=>exact ⟨.bl false,H1,I1,rfl,q1⟩
theorem aF1 (ha:PE X a ta):PE X (.UnaryOp .Not a pos) (aGV ta):=by
 intro pins s σ H Q I h
 refine UnaryOp_ (thn (ha pins s σ H _ I h) λv s1 hx9=>?_)
 obtain ⟨x,H1,I1,r1,q1⟩:=hx9
 obtain ⟨c,rfl,q1⟩:=q1
 cases r1
 exact not_of (Rt ⟨.bl (!c),H1,I1,rfl,q1⟩)
end
def SqL (K:Rc) (H:Hp) (a:Addr) (xs:List V):Prop :=
 Rd H a (.lst xs) ∨
  ∃ (o:Obj) (its:Array Value) (n:Nat),K.lookup a=some o/\o.cls=.type "list" /\ o.dict=none/\o.data=.seq its n/\its.size<=sizeLine/\bK xs its.toList
def SqT (K:Rc) (H:Hp) (a:Addr) (xs:List V):Prop :=
 Rd H a (.tup xs) ∨
  ∃ (o:Obj) (its:Array Value) (n:Nat),K.lookup a=some o/\o.cls=.type "tuple" /\ o.dict=none/\o.data=.seq its n/\its.size<=sizeLine/\bK xs its.toList
def aHF:Value->Option V
 | .none=>some .non
 | .bool b=>some (.bl b)
 | .int i _=>some (.int i)
 | .str x _=>some (.str x)
 | .bytes b _=>some (.byt b)
 | .float b _=>some (.flt b)
 | .ref a=>some (.ref a)
 | .type n=>some (.ty n)
 | _=>none
theorem bQ.abs (r:bQ x u):aHF u=some x:=by
 cases x with
 | non=>cases r; rfl
 | bl _=>cases r; rfl
 | int _=>obtain ⟨t,rfl⟩:=r; rfl
 | str _=>obtain ⟨t,rfl⟩:=r; rfl
 | byt _=>obtain ⟨t,rfl⟩:=r; rfl
 | flt _=>obtain ⟨t,rfl⟩:=r; rfl
 | ref _=>cases r; rfl
 | ty _=>cases r; rfl
theorem bQ.inj (r:bQ x u) (q:bQ y u):x=y:=Option.some.inj (r.abs.symm.trans q.abs)
theorem bK.inj:∀ {xs ys:List V} {us:List Value},bK xs us->bK ys us->xs=ys
 := by
 intro xs ys us h
 induction h generalizing ys with
 | nil=>intro q; cases q; rfl
 | cons r t ih=>intro q; cases q with | cons r' t'=>rw [r.inj r',ih t']
section
variable {σ:St}
theorem SqL.of (h:H a=some (.lst xs)):SqL K H a xs:=.inl (.inl h)
theorem SqT.of (h:H a=some (.tup xs)):SqT K H a xs:=.inl (.inl h)
theorem Inv.list (I:Inv X pins σ H s) (h:SqL X.K H a xs):∃ its:List Value,bK xs its/\PlainL s.heap a its.toArray/\xs.length<=sizeLine:=by
 rcases h with h | ⟨o,its,n,hk,hc,hd,hs,hz,r⟩
 ·obtain ⟨z,its,n,r,e⟩:=h.ok I.hok
  exact ⟨its,r,⟨_,n,e,rfl,rfl,rfl⟩,z⟩
 ·refine ⟨its.toList,r,⟨o,n,I.kIn a o hk,hc,hd,by simpa using hs⟩,?_⟩
  have e:=r.length
  simp only [Array.length_toList] at e
  omega
theorem Inv.tuple (I:Inv X pins σ H s) (h:SqT X.K H a xs):∃ its:List Value,bK xs its/\IsTup s.heap a its.toArray/\xs.length<=sizeLine:=by
 rcases h with h | ⟨o,its,n,hk,hc,_,hs,hz,r⟩
 ·obtain ⟨z,its,n,r,p⟩:=h.ok I.hok
  exact ⟨its,r,⟨_,p,rfl,n,rfl⟩,z⟩
 ·refine ⟨its.toList,r,⟨o,I.kIn a o hk,hc,n,by simpa using hs⟩,?_⟩
  have e:=r.length
  simp only [Array.length_toList] at e
  omega
theorem Inv.list_inj (I:Inv X pins σ H s) (h:SqL X.K H a xs) (h':SqL X.K H a ys):xs=ys:=by
 obtain ⟨its,r,⟨o,n,e,_,_,d⟩,_⟩:=I.list h
 obtain ⟨its',r',⟨o',n',e',_,_,d'⟩,_⟩:=I.list h'
 rw [e] at e'; cases e'
 rw [d] at d'
 injection d' with d1 _
 have:its=its':=by simpa using congrArg Array.toList d1
 subst this
 exact r.inj r'
theorem Inv.tuple_inj (I:Inv X pins σ H s) (h:SqT X.K H a xs) (h':SqT X.K H a ys):xs=ys:=by
 obtain ⟨its,r,⟨o,e,_,n,d⟩,_⟩:=I.tuple h
 obtain ⟨its',r',⟨o',e',_,n',d'⟩,_⟩:=I.tuple h'
 rw [e] at e'; cases e'
 rw [d] at d'
 injection d' with d1 _
 have:its=its':=by simpa using congrArg Array.toList d1
 subst this
 exact r.inj r'
abbrev Cx.wish (X:Cx) (E:Value->Shared->Prop):Cx:={ X with xe:=E }
abbrev Cx.nox (X:Cx):Cx:=X.wish λ_ _=>False
theorem Cx.Ok.wish (ok:X.Ok) (E:Value->Shared->Prop):(X.wish E).Ok :=
 ⟨ok.mod,ok.kind,ok.glob,ok.blt,ok.above,ok.inj,ok.has,ok.cab,ok.hd,ok.frames,ok.stk,ok.exf,ok.bs,ok.bsz,ok.noex,ok.exfs,ok.funs,ok.frf⟩
theorem Cx.Ok.unwish (ok:(X.wish E).Ok):X.Ok :=
 ⟨ok.mod,ok.kind,ok.glob,ok.blt,ok.above,ok.inj,ok.has,ok.cab,ok.hd,ok.frames,ok.stk,ok.exf,ok.bs,ok.bsz,ok.noex,ok.exfs,ok.funs,ok.frf⟩
theorem Inv.wish (I:Inv X pins σ H s) (E:Value->Shared->Prop):Inv (X.wish E) pins σ H s:=⟨I.ok.wish E,I.os,I.bare,I.base,I.loc,I.cell,I.free,I.freeC,I.pin,I.hok,I.len⟩
theorem Inv.unwish (I:Inv (X.wish E) pins σ H s):Inv X pins σ H s:=⟨I.ok.unwish,I.os,I.bare,I.base,I.loc,I.cell,I.free,I.freeC,I.pin,I.hok,I.len⟩
theorem SP.unwish {D:Ends} {f:Flow} (h:SP (X.wish E) pins D f s'):SP X pins D f s':=by
 cases f with
 | next=>obtain ⟨σ',H',I,q⟩:=h; exact ⟨σ',H',I.unwish,q⟩
 | brk=>obtain ⟨σ',H',I,q⟩:=h; exact ⟨σ',H',I.unwish,q⟩
 | cont=>obtain ⟨σ',H',I,q⟩:=h; exact ⟨σ',H',I.unwish,q⟩
 | ret u=>obtain ⟨v,σ',H',I,r,q⟩:=h; exact ⟨v,σ',H',I.unwish,r,q⟩
theorem PE.nox {t:TE} (h:PE X.nox e t):PE X e t:=λpins s σ H Q I hw =>
 Rn (h pins s σ H Q (I.wish _) hw) (λ_ _ ⟨v,H',I',r,q⟩=>⟨v,H',I'.unwish,r,q⟩) λ_ _ z=>False.elim z
theorem PT.nox {t:TT} (h:PT X.nox e t):PT X e t:=λpins s σ H Q I hw =>
 Rn (h pins s σ H Q (I.wish _) hw) (λ_ _ ⟨H',I',q⟩=>⟨H',I'.unwish,q⟩) λ_ _ z=>False.elim z
theorem PSs.nox {st:List Stmt} {t:TS} (h:PSs X.nox st t):PSs X st t:=λpins s σ H D I hw =>
 Rn (h pins s σ H D (I.wish _) hw) (λ_ _ q=>q.unwish) λ_ _ z=>False.elim z
end
section
variable {kX:List Stmt} {t u:TS}
def aGW:TS:=λD σ H=>D.nx σ H
def aHG (t u:TS):TS:=λD σ H=>t { D with nx:=u D } σ H
theorem bI:PSs X [] aGW:=λ_ _ σ H _ I h=>Vt ⟨σ,H,I,h⟩
theorem aE (h1:PS X st t) (h2:PSs X kX u):PSs X (st::kX) (aHG t u):=by
 intro pins s σ H D I h
 refine RaG (thn (h1 pins s σ H { D with nx:=u D } I h) λf s1 q=>?_)
 cases f with
 | next =>
  obtain ⟨σ',H',I',q⟩:=q
  exact h2 pins s1 σ' H' D I' q
 | ret v=>exact q
 | brk=>exact q
 | cont=>exact q
theorem aJ (h1:PS X st t):PSs X [st] t:=by
 intro pins s σ H D I h
 refine RaG (thn (h1 pins s σ H D I h) λf s1 q=>?_)
 cases f with
 | next=>exact Vt q
 | ret v=>exact q
 | brk=>exact q
 | cont=>exact q
def aF2:TS:=λD σ H=>D.bk σ H
theorem aCK:PS X (.Break pos) aF2:=λ_ _ σ H _ I h=>wpAny_Break ⟨σ,H,I,h⟩
theorem Inv.quiet {σ:St} (I:Inv X pins σ H s):interactive X.env=false:=by simp [interactive,I.ok.kind]
def aGX (te:TE):TS:=λD σ H=>te σ H λ_ H1=>D.nx σ H1
theorem gA (he:PE X e te) (hs:swapsWith e none pos.line X.env=pure false:=by rfl):PS X (.Expr e pos) (aGX te):=by
 intro pins s σ H D I h
 refine wpAny_Expr_any (thn (he pins s σ H _ I h) λv s1 hx9=>?_) I.quiet hs
 obtain ⟨x,H1,I1,r1,q1⟩:=hx9
 exact ⟨σ,H1,I1,q1⟩
def aHH (te:TE):TS:=λD σ H=>te σ H D.rt
theorem aX (he:PE X e te):PS X (.Return (some e) pos) (aHH te):=by
 intro pins s σ H D I h
 refine wpAny_Return_some (thn (he pins s σ H _ I h) λv s1 hx9=>?_)
 obtain ⟨x,H1,I1,r1,q1⟩:=hx9
 exact ⟨x,σ,H1,I1,r1,q1⟩
def aHI (c:TT) (t u:TS):TS:=λD σ H=>c σ H λb H1=>if b=true then t D σ H1 else u D σ H1
theorem cJ {c:Expr} {a b:List Stmt} {tc:TT} (hc:PT X c tc) (ha:PSs X a t) (hb:PSs X b u):PS X (.If c a b pos) (aHI tc t u):=by
 intro pins s σ H D I h
 refine wpAny_If (thn (hc pins s σ H _ I h) λd s1 hx9=>?_)
 obtain ⟨H1,I1,q1⟩:=hx9
 cases d with
 | true=>exact ha pins s1 σ H1 D I1 q1
 | false=>exact hb pins s1 σ H1 D I1 q1
def aF3:TS:=λ_ _ _=>False
theorem iN {sts:List Stmt}:PSs X sts aF3:=λ_ _ _ _ _ _ h=>h.elim
end
abbrev TG:=V->St->Hp->(St->Hp->Prop)->Prop
end L2
variable {g:TG}
namespace L2
open PySem PySem.Spec PyProof.Rows
abbrev TGs:=List V->St->Hp->(St->Hp->Prop)->Prop
def PG (X:Cx) (target:Expr) (t:TG):Prop :=
 ∀ (pins:List (Addr×Obj)) (s:Shared) (σ:St) (H:Hp) (v:V) (u:Value) (Q:St->Hp->Prop),Inv X pins σ H s->bQ v u->t v σ H Q ->
  wpAny (model X.prog X.w) X.A (assign target X.env u) (λ_ s'=>∃ σ' H',Inv X pins σ' H' s'/\Q σ' H') X.xe s
def PGs (X:Cx) (ts:List Expr) (t:TGs):Prop :=
 ∀ (pins:List (Addr×Obj)) (s:Shared) (σ:St) (H:Hp) (vs:List V) (us:List Value) (Q:St->Hp->Prop),Inv X pins σ H s->bK vs us->t vs σ H Q ->
  wpAny (model X.prog X.w) X.A (assignInOrder ((assignEach ts X.env).map (·.2)) us) (λ_ s'=>∃ σ' H',Inv X pins σ' H' s'/\Q σ' H') X.xe s
abbrev aF4:=V->V->V->Hp->(Hp->Prop)->Prop
def aGY (X:Cx) (t:aF4):Prop :=
 ∀ (pins:List (Addr×Obj)) (s:Shared) (σ:St) (H:Hp) (o i v:V) (ov iv u:Value) (Q:Hp->Prop),Inv X pins σ H s->bQ o ov->bQ i iv->bQ v u->t o i v H Q ->
  wpAny (model X.prog X.w) X.A (setItem ov iv u) (λ_ s'=>∃ H',Inv X pins σ H' s'/\Q H') X.xe s
def fV (i:Nat):TG:=λv σ H Q=>Q (σ.set i (some v)) H
theorem aK {i:Nat} {x:Str} (hN:X.N.Nodup) (hi:X.N[i]?=some x) (hx:Loc X.env.scope x) (hf:X.fn x=true∨X.env.scope.names.lookup x=some .local:=by first | exact .inl rfl | exact .inr rfl | assumption):PG X (.Name x pos) (fV i):=by
 intro pins s σ H v u Q I r h
 exact RaC (wQ I hN hi hx r (λs' I'=>⟨_,H,I',h⟩) hf)
def aHJ:TGs:=λvs σ H Q=>vs = []/\Q σ H
def aGZ (t:TG) (u:TGs):TGs:=λvs σ H Q=>∃ v r,vs=v::r/\t v σ H λσ' H'=>u r σ' H' Q
theorem cP:PGs X [] aHJ:=by
 intro pins s σ H vs us Q I r h
 obtain ⟨e,h⟩:=h
 subst e
 cases r
 exact assignInOrder_nil ⟨σ,H,I,h⟩
theorem aU {t:TG} {u:TGs} (h1:PG X e t) (h2:PGs X es u) (hs:(assignEach (e::es) X.env).map (·.2)=assign e X.env::(assignEach es X.env).map (·.2):=by rfl):PGs X (e::es) (aGZ t u):=by
 intro pins s σ H vs us Q I r h
 obtain ⟨v,vr,e1,h⟩:=h
 subst e1
 cases r with
 | cons r rr =>
  rw [hs]
  refine assignInOrder_cons (thn (h1 pins s σ H _ _ _ I r h) λ_ s1 hx9=>?_)
  obtain ⟨σ1,H1,I1,q1⟩:=hx9
  exact h2 pins s1 σ1 H1 _ _ Q I1 rr q1
def aG0 (K:Rc) (n:Nat) (t:TGs):TG:=λv σ H Q=>∃ a xs,v=.ref a/\SqT K H a xs/\xs.length=n/\t xs σ H Q
theorem fM {k:Nat} {t:TGs} {n:Nat} (hc:X.calm=true) (h:PGs X es t) (hn:(assignEach es X.env).length=n:=by rfl) (hst:(assignEach es X.env).findIdx? (·.1)=none:=by rfl):PG X (.Tuple es k pos) (aG0 X.K n t):=by
 intro pins s σ H v u Q I r hw
 obtain ⟨a,xs,e1,hq,hl,hw⟩:=hw
 subst e1
 cases r
 obtain ⟨its,rv,ht,hz⟩:=I.tuple hq
 refine assign_Tuple_tuple (I.ok.hd hc) ht (by simp [hn,<- hl,rv.length]) hst λh' hx=>?_
 have I1:Inv X pins σ H { s with heap:=h' }:=I.kept (t':=s.toks) λb o e=>hx b o (Qz (Qm e)) e
 exact h pins _ σ H xs _ Q I1 (by simpa using rv) hw
def aHK (to ti:TE) (t:aF4):TG:=λv σ H Q=>to σ H λo H1=>ti σ H1 λi H2=>t o i v H2 λH3=>Q σ H3
theorem qR {o i:Expr} {ti:TE} {t:aF4} (ho:PE X o to) (hi:PE X i ti) (hs:aGY X t) (ha:∀ v,assign (.Subscript o i pos) X.env v=(do
   let ov<-holding [v] (eval o X.env)
   let iv<-holding [v,ov] (eval i X.env)
   standAt pos
   holding [v,ov,iv] (setItem ov iv v)
   release [v,ov,iv] []):=by intro _; rfl):PG X (.Subscript o i pos) (aHK to ti t):=by
 intro pins s σ H v u Q I r h
 rw [ha]
 refine Ra (Rl (thn (ho pins s σ H _ I h) λov s1 hx9=>?_))
 obtain ⟨x,H1,I1,r1,q1⟩:=hx9
 refine Ra (Rl (thn (hi pins s1 σ H1 _ I1 q1) λiv s2 hx9=>?_))
 obtain ⟨y,H2,I2,r2,q2⟩:=hx9
 refine Ra (Tg (Ra (Rl (thn (hs pins s2 σ H2 x y v ov iv u _ I2 r1 r2 r q2) λ_ s3 hx9=>?_))))
 obtain ⟨H3,I3,q3⟩:=hx9
 exact wpAny_release ⟨σ,H3,I3,q3⟩
def aEB (te:TE) (g:TG):TS:=λD σ H=>te σ H λx H1=>g x σ H1 D.nx
theorem iA (he:PE X e te) (hg:PG X tg g) (hs:swapsWithSole [tg] e pos.line X.env=pure false:=by rfl) (hw:swappedStores [tg] e X.env=pure none:=by rfl) (h1:(assignEach [tg] X.env).map (·.2) = [assign tg X.env]:=by rfl):PS X (.Assign [tg] e pos) (aEB te g):=by
 intro pins s σ H D I h
 refine wpAny_Assign_stores (thn (he pins s σ H _ I h) λv s1 hx9=>?_) hs hw
 obtain ⟨x,H1,I1,r1,q1⟩:=hx9
 rw [h1]
 exact thn (hg pins s1 σ H1 x v _ I1 r1 q1) λ_ s2 q=>q
theorem aS {i:Nat} {x:Str} (hN:X.N.Nodup) (hi:X.N[i]?=some x) (hx:Loc X.env.scope x) (he:PE X e te) (hs:swapsWith e (some (.Name x pos')) pos.line X.env=pure false:=by rfl) (hf:X.fn x=true∨X.env.scope.names.lookup x=some .local:=by first | exact .inl rfl | exact .inr rfl | assumption) :
  PS X (.Assign [.Name x pos'] e pos) (aEB te (fV i)):=by
 intro pins s σ H D I h
 refine wpAny_Assign_Name (thn (he pins s σ H _ I h) λv s1 hx9=>?_) hs
 obtain ⟨y,H1,I1,r1,q1⟩:=hx9
 exact wQ I1 hN hi hx r1 (λs2 I2=>⟨_,H1,I2,q1⟩) hf
def aF5 (c:TT) (tb:TS):TS:=λD σ H=>∃ W:Nat->St->Hp->Prop,(∃ m,W m σ H)/\∀ m σ H,W m σ H ->
 c σ H λb H1=>if b=true then ∃ N:St->Hp->Prop,(∀ σ' H',N σ' H'->∃ m',m' < m/\W m' σ' H')/\tb { D with nx:=N,ct:=N,bk:=D.nx } σ H1 else D.nx σ H1
theorem qS {c:Expr} {tc:TT} (hp:PassesOwn (model X.prog X.w) X.A X.env X.xe) (hc:PT X c tc) (hb:PSs X body tb):PS X (.While c body [] pos) (aF5 tc tb):=by
 intro pins s σ H D I h
 obtain ⟨W,⟨m0,w0⟩,turn⟩:=h
 refine wpAny_While (codeAny_whileLoop (λn s'=>∃ σ' H',Inv X pins σ' H' s'/\W n σ' H') ?_ m0 ⟨σ,H,I,w0⟩)
 rintro n s1 ⟨σ1,H1,I1,w1⟩
 refine Ue hp (thn (hc pins s1 σ1 H1 _ I1 (turn n σ1 H1 w1)) λb s2 hx9=>?_)
 obtain ⟨H2,I2,q2⟩:=hx9
 cases b with
 | true =>
  obtain ⟨N,hN,q2⟩:=q2
  rw [if_pos rfl]
  refine Ue hp (thn (hb pins s2 σ1 H2 _ I2 q2) λf s3 q3=>?_)
  cases f with
  | next =>
   obtain ⟨σ3,H3,I3,n3⟩:=q3
   obtain ⟨m',hm,w3⟩:=hN σ3 H3 n3
   exact ⟨m',hm,σ3,H3,I3,w3⟩
  | cont =>
   obtain ⟨σ3,H3,I3,n3⟩:=q3
   obtain ⟨m',hm,w3⟩:=hN σ3 H3 n3
   exact ⟨m',hm,σ3,H3,I3,w3⟩
  | brk=>exact q3
  | ret v=>exact q3
 | false =>
  rw [if_neg Qr]
  exact Vt ⟨σ1,H2,I2,q2⟩
structure It where
 go:Nat->Hp->Prop
 yld:Nat->Hp->V->Hp->Prop
 stop:Nat->Hp->Prop
end L2
variable {J:It}
namespace L2
open PySem PySem.Spec PyProof.Rows
def qE (X:Cx) (pins:List (Addr×Obj)) (H:Hp) (b:Addr):Prop :=
 H b=none/\b≠X.env.locals/\b∉X.fs/\(b∈X.ex∨X.s0x.heap.objs.size<=b)/\(∀ x c,X.env.cells.lookup x=some c->c≠b)/\∀ p∈X.pn++pins,p.1≠b
theorem Inv.fpOk {σ:St} (I:Inv X pins σ H s) (hb:s.heap.objs.size<=b) (hn:H' b=none):qE X pins H' b:=by
 refine ⟨hn,Xm (Qx I.lt hb),I.nofs hb,.inr (Je I.sz hb),λx c e z=>?_,λp hp z=>?_⟩
 ·obtain ⟨v,q⟩:=I.cell x c e
  exact absurd (Qx q.lt (by rw [z]; exact hb)) (Ju _)
 ·exact absurd (Qx (Qm (I.pin p hp).1) (by rw [z]; exact hb)) (Ju _)
structure Turn (P:Program) (w:World) (K:Rc) (tg:Expr) (J:It) (fp:List Addr) (it:Addr) (tn:Nat->Heap->Prop):Prop where
 mem:it∈fp
 obj:∀ i h,tn i h->∀ b∈fp,∃ o,h.get? b=some o/\∀ v,o.data≠.cell v
 keep:∀ i h h',tn i h->(∀ b∈fp,∀ o,h.get? b=some o->h'.get? b=some o)->tn i h'
 item:∀ (X:Cx),X.prog=P->X.w=w->X.K=K->X.calm=true->∀ (i:Nat) (pins:List (Addr×Obj)) (s:Shared) (σ:St) (H:Hp) (E:Value->Shared->Prop),Inv X pins σ H s->(∀ b∈fp,qE X pins H b)->tn i s.heap->J.go i H ->
  wpAny (model P w) X.A (pyNext (.ref it)) (λr s1=>∃ u,r=some u /\
   wpAny (model P w) X.A (letOwnedTupleGo tg (.ref it) u) (λ_ s2=>∃ x H',Inv X pins σ H' s2/\bQ x u/\J.yld i H x H'/\tn (i+1) s2.heap/\∀ b∈fp,H' b=none) E s1) E s
 done:∀ (X:Cx),X.prog=P->X.w=w->X.K=K->X.calm=true->∀ (i:Nat) (pins:List (Addr×Obj)) (s:Shared) (σ:St) (H:Hp) (E:Value->Shared->Prop),Inv X pins σ H s->(∀ b∈fp,qE X pins H b)->tn i s.heap->J.stop i H ->
  wpAny (model P w) X.A (pyNext (.ref it)) (λr s1=>r=none/\Inv X pins σ H s1) E s
 self:∀ (A:Around) (i:Nat) (s:Shared) (Q:Value->Shared->Prop) (E:Value->Shared->Prop),tn i s.heap->Q (.ref it) s->wpAny (model P w) A (pyIter (.ref it)) Q E s
abbrev TI:=St->Hp->(It->Hp->Prop)->Prop
def PIE (X:Cx) (pins:List (Addr×Obj)) (σ:St) (tg:Expr) (R:It->Hp->Prop) (itv:Value) (s2:Shared):Prop :=
 ∃ (it:Addr) (fp:List Addr) (tn:Nat->Heap->Prop) (J:It) (H':Hp),itv=.ref it/\Inv X pins σ H' s2/\Turn X.prog X.w X.K tg J fp it tn/\tn 0 s2.heap/\(∀ b∈fp,qE X pins H' b)/\R J H'
def PI (X:Cx) (tg iter:Expr) (wi:TI):Prop :=
 ∀ (pins:List (Addr×Obj)) (s:Shared) (σ:St) (H:Hp) (R:It->Hp->Prop),Inv X pins σ H s->wi σ H R ->
  wpAny (model X.prog X.w) X.A (eval iter X.env) (λv s1=>wpAny (model X.prog X.w) X.A (pyIter v) (PIE X pins σ tg R) X.xe s1) X.xe s
theorem wR {n:String} {vs:Array Value} {Q:Unit->Shared->Prop} (ho:s.heap.get? it=some o) (hc:o.cls=.type n) (hd:o.data=.fields vs) (hn : ["enumerate", "zip", "dict_itemiterator", "dict_reverseitemiterator", "odict_iterator", "itertools.zip_longest", "itertools.pairwise"].contains n=false) (hQ:Q () s):wpAny M A (letOwnedTupleGo tg (.ref it) u) Q E s:=by
 unfold letOwnedTupleGo
 cases tg <;> first
  | exact Rb hQ
  | (cases u <;> first
    | exact Rb hQ
    | (refine Ra (wpAny_load ho ?_)
       rw [hc,hd]
       show wpAny M A (if (["enumerate", "zip", "dict_itemiterator", "dict_reverseitemiterator", "odict_iterator", "itertools.zip_longest", "itertools.pairwise"].contains n && vs[0]?==some (rawInt _))=true then _ else _) Q E s
       rw [if_neg (by intro h; rw [hn,Bool.false_and] at h; cases h)]
       exact Rb hQ))
def Itl (K:Rc) (a:Addr):It :=
 ⟨λi H=>∃ xs x,SqL K H a xs/\xs[i]?=some x,λi H x H'=>H'=H/\∀ xs,SqL K H a xs->xs[i]?=some x,λi H=>∃ xs,SqL K H a xs/\xs.length<=i⟩
def Itt (K:Rc) (a:Addr):It :=
 ⟨λi H=>∃ xs x,SqT K H a xs/\xs[i]?=some x,λi H x H'=>H'=H/\∀ xs,SqT K H a xs->xs[i]?=some x,λi H=>∃ xs,SqT K H a xs/\xs.length<=i⟩
def Itr (lo:Int) (n:Nat):It:=⟨λi _=>i < n,λi H x H'=>H'=H/\x=.int (lo+i),λi _=>n<=i⟩
theorem aBP (a it:Addr):Turn P w K tg (Itl K a) [it] it (λi h=>h.IsListIter it a i) where
 mem:=by simp
 obj:=λi h st b hb=>by
  have e:b=it:=by simpa using hb
  subst e
  obtain ⟨o,e,c,d⟩:=st
  exact ⟨o,e,λv z=>by rw [d] at z; cases z⟩
 keep:=λi h h' st k=>st.at λo e=>k it (by simp) o e
 item:=by
  intro X hP hw hK hc i pins s σ H E I hf st hg
  subst hP hw hK
  obtain ⟨xs,x,hq,hx⟩:=hg
  obtain ⟨its,rv,p,hz⟩:=I.list hq
  obtain ⟨u,hu,ru⟩:=rv.get hx
  obtain ⟨f0,f1,f2,f3,f4,f5⟩:=hf it (by simp)
  refine wpAny_pyNext_list_item st p.isList (x:=u) (by simpa using hu) λh' st' sb=>?_
  have I1:Inv X pins σ H { s with heap:=h' }:=I.turned (t':=s.toks) (λb o hb e=>(sb.2 b hb).trans e) f0 f1 f3 f4 f5
  obtain ⟨o,e,c,d⟩:=id st'
  exact ⟨u,rfl,wR (s:={ s with heap:=h' }) e c d (by decide) ⟨x,H,I1,ru,⟨rfl,λys hy=>by rw [I.list_inj hy hq]; exact hx⟩,st',λb hb=>(hf b hb).1⟩⟩
 done:=by
  intro X hP hw hK hc i pins s σ H E I hf st hg
  subst hP hw hK
  obtain ⟨xs,hq,hx⟩:=hg
  obtain ⟨its,rv,p,hz⟩:=I.list hq
  obtain ⟨f0,f1,f2,f3,f4,f5⟩:=hf it (by simp)
  have hl:=rv.length
  exact wpAny_pyNext_list_end (I.ok.hd hc) st p.isList (by simp; omega) λh' eb=>⟨rfl,I.turned (t':=s.toks) (λb o hb e=>eb b o hb e) f0 f1 f3 f4 f5⟩
 self:=λ_ _ _ _ _ st h=>wpAny_pyIter_listiter st h
theorem zN (a it:Addr):Turn P w K tg (Itt K a) [it] it (λi h=>h.IsTupleIter it a i) where
 mem:=by simp
 obj:=λi h st b hb=>by
  have e:b=it:=by simpa using hb
  subst e
  obtain ⟨o,e,c,d⟩:=st
  exact ⟨o,e,λv z=>by rw [d] at z; cases z⟩
 keep:=λi h h' st k=>st.at λo e=>k it (by simp) o e
 item:=by
  intro X hP hw hK hc i pins s σ H E I hf st hg
  subst hP hw hK
  obtain ⟨xs,x,hq,hx⟩:=hg
  obtain ⟨its,rv,p,hz⟩:=I.tuple hq
  obtain ⟨u,hu,ru⟩:=rv.get hx
  obtain ⟨f0,f1,f2,f3,f4,f5⟩:=hf it (by simp)
  refine wpAny_pyNext_tuple_item st (show s.heap.IsTuple a its.toArray from p) (x:=u) (by simpa using hu) λh' st' sb=>?_
  have I1:Inv X pins σ H { s with heap:=h' }:=I.turned (t':=s.toks) (λb o hb e=>(sb.2 b hb).trans e) f0 f1 f3 f4 f5
  obtain ⟨o,e,c,d⟩:=id st'
  exact ⟨u,rfl,wR (s:={ s with heap:=h' }) e c d (by decide) ⟨x,H,I1,ru,⟨rfl,λys hy=>by rw [I.tuple_inj hy hq]; exact hx⟩,st',λb hb=>(hf b hb).1⟩⟩
 done:=by
  intro X hP hw hK hc i pins s σ H E I hf st hg
  subst hP hw hK
  obtain ⟨xs,hq,hx⟩:=hg
  obtain ⟨its,rv,p,hz⟩:=I.tuple hq
  obtain ⟨f0,f1,f2,f3,f4,f5⟩:=hf it (by simp)
  have hl:=rv.length
  exact wpAny_pyNext_tuple_end (I.ok.hd hc) st (show s.heap.IsTuple a its.toArray from p) (by simp; omega) λh' eb=>⟨rfl,I.turned (t':=s.toks) (λb o hb e=>eb b o hb e) f0 f1 f3 f4 f5⟩
 self:=λ_ _ _ _ _ st h=>wpAny_pyIter_tupleiter st h
theorem zO (it:Addr) (lo:Int) (n:Nat):Turn P w K tg (Itr lo n) [it] it (λi h=>IsRangeIter h it (lo+(i:Nat)*1) ((n:Int) - (i:Nat)) 1) where
 mem:=by simp
 obj:=λi h st b hb=>by
  have e:b=it:=by simpa using hb
  subst e
  exact ⟨_,st,λv z=>by
   have z':Data.fields _=Data.cell v:=z
   cases z'⟩
 keep:=λi h h' st k=>k it (by simp) _ st
 item:=by
  intro X hP hw hK hc i pins s σ H E I hf st hg
  subst hP hw hK
  obtain ⟨f0,f1,f2,f3,f4,f5⟩:=hf it (by simp)
  have W:=Walks.range (prog:=X.prog) (w:=X.w) (I.ok.hd hc) it lo 1 n
  refine W.item i s _ _ hg st λv h' tk hv st' kk=>?_
  obtain ⟨t,rfl⟩:=hv
  have I1:Inv X pins σ H { s with heap:=h',toks:=tk }:=I.turned (λb o hb e=>kk b o (by simpa using hb) e) f0 f1 f3 f4 f5
  refine ⟨_,rfl,wR (s:={ s with heap:=h',toks:=tk }) (n := "range_iterator") st' rfl rfl (by decide) ⟨.int (lo+i),H,I1,⟨t,?_⟩,⟨rfl,rfl⟩,st',λb hb=>(hf b hb).1⟩⟩
  rw [Int.mul_one]
 done:=by
  intro X hP hw hK hc i pins s σ H E I hf st hg
  subst hP hw hK
  obtain ⟨f0,f1,f2,f3,f4,f5⟩:=hf it (by simp)
  exact wpAny_pyNext_range_end (I.ok.hd hc) st (by have:n<=i:=hg; omega) λh' eb=>⟨rfl,I.turned (t':=s.toks) (λb o hb e=>eb b o hb e) f0 f1 f3 f4 f5⟩
 self:=λ_ _ _ _ _ st h=>wpAny_pyIter_rangeiter st h
def aFC (K:Rc) (tl:TE):TI:=λσ H R=>tl σ H λx H1=>∃ a,x=.ref a/\(∃ xs,SqL K H1 a xs)/\R (Itl K a) H1
def aHL (K:Rc) (tl:TE):TI:=λσ H R=>tl σ H λx H1=>∃ a,x=.ref a/\(∃ xs,SqT K H1 a xs)/\R (Itt K a) H1
theorem eZ {l:Expr} (hl:PE X l tl):PI X tg l (aFC X.K tl):=by
 intro pins s σ H R I h
 refine thn (hl pins s σ H _ I h) λv s1 hx9=>?_
 obtain ⟨x,H1,I1,r1,q1⟩:=hx9
 obtain ⟨a,e,⟨xs,hq⟩,q⟩:=q1
 subst e
 cases r1
 obtain ⟨its,rv,p,hz⟩:=I1.list hq
 refine Tq p.isList ?_
 refine ⟨s1.heap.objs.size,[s1.heap.objs.size],_,_,H1,rfl,I1.kept (t':=s1.toks) λb o e=>Qa _ e,aBP a _,⟨_,Qg _ rfl,rfl,rfl⟩,λb hb=>?_,q⟩
 have e:b=s1.heap.objs.size:=by simpa using hb
 subst e
 exact I1.fpOk (Qh _) (I1.hok.fresh (Qh _))
theorem gB {l:Expr} (hl:PE X l tl):PI X tg l (aHL X.K tl):=by
 intro pins s σ H R I h
 refine thn (hl pins s σ H _ I h) λv s1 hx9=>?_
 obtain ⟨x,H1,I1,r1,q1⟩:=hx9
 obtain ⟨a,e,⟨xs,hq⟩,q⟩:=q1
 subst e
 cases r1
 obtain ⟨its,rv,p,hz⟩:=I1.tuple hq
 refine Il (show s1.heap.IsTuple a its.toArray from p) ?_
 refine ⟨s1.heap.objs.size,[s1.heap.objs.size],_,_,H1,rfl,I1.kept (t':=s1.toks) λb o e=>Qa _ e,zN a _,⟨_,Qg _ rfl,rfl,rfl⟩,λb hb=>?_,q⟩
 have e:b=s1.heap.objs.size:=by simpa using hb
 subst e
 exact I1.fpOk (Qh _) (I1.hok.fresh (Qh _))
theorem aCL {σ:St} {R:It->Hp->Prop} {hi:Int} {t u v:Tok} {tk:Nat} (I:Inv X pins σ H s) (h1:-(2^62)<=lo) (h2:lo < 2^62) (h3:-(2^62)<=hi) (h4:hi < 2^62) (q:R (Itr lo (hi - lo).toNat) H):wpAny (model X.prog X.w) X.A (pyIter (.ref s.heap.objs.size)) (PIE X pins σ tg R) E { s with heap:=s.heap.push { cls:=.type "range",data:=.fields #[.int lo t,.int hi u,.int 1 v] },toks:=tk }:=by
 refine wpAny_pyIter_range (IsRange.new ..) (small_one h1 h2 h3 h4) ?_
 have I1:Inv X pins σ H { s with heap:=s.heap.push { cls:=.type "range",data:=.fields #[.int lo t,.int hi u,.int 1 v] },toks:=tk }:=I.kept λb o e=>Qa _ e
 refine ⟨(s.heap.push { cls:=.type "range",data:=.fields #[.int lo t,.int hi u,.int 1 v] }).objs.size,[(s.heap.push { cls:=.type "range",data:=.fields #[.int lo t,.int hi u,.int 1 v] }).objs.size],_,_,H,rfl,
  I1.kept (t':=tk) λb o e=>Qa _ e,zO _ lo (hi - lo).toNat,?_,λb hb=>?_,q⟩
 ·have e1:lo+((0:Nat):Int)*1=lo:=by simp
  have e2:(((hi - lo).toNat:Nat):Int) - ((0:Nat):Int)=Builtin.Range.rangeSize lo hi 1:=by rw [rangeSize_one]; split <;> omega
  show IsRangeIter _ _ (lo+((0:Nat):Int)*1) ((((hi - lo).toNat:Nat):Int) - ((0:Nat):Int)) 1
  rw [e1,e2]
  exact Qg _ rfl
 ·have e:b=(s.heap.push { cls:=.type "range",data:=.fields #[.int lo t,.int hi u,.int 1 v] }).objs.size:=by simpa using hb
  subst e
  exact I1.fpOk (Qh _) (I1.hok.fresh (Qh _))
def aG1 (ta:TA):TI:=λσ H R=>ta σ H λvs H1=>∃ j:Int,vs = [.int j]/\-(2^62)<=j/\j < 2^62/\R (Itr 0 j.toNat) H1
theorem dP {a:Expr} {ta:TA} (hg:Gl X "range") (hm:X.mg "range" = none) (ha:PA X [a] ta) (hs:starEach [a] X.env = [(false,eval a X.env)]:=by rfl):PI X tg (.Call (.Name "range" p) [a] [] pos) (aG1 ta):=by
 intro pins s σ H R I h
 refine Call_ (iU I hg hm boot_range (PyProof.Rows.callWith_type1 (thn (ha pos pins s σ H _ I h) λus s1 hx9=>?_) hs rfl))
 obtain ⟨vs,H1,I1,r1,q1⟩:=hx9
 obtain ⟨j,e,q1,q2,q⟩:=q1
 subst e
 cases r1 with
 | cons r rr =>
  cases rr
  obtain ⟨t,rfl⟩:=r
  exact call_range_1 (aCL I1 (by omega) (by omega) q1 q2 (by simpa using q))
def aHM (wi:TI) (g:TG) (tb:TS):TS:=λD σ H=>wi σ H λJ H1=>∃ W:Nat->Nat->St->Hp->Prop,(∃ m,W 0 m σ H1)/\∀ i m σ H,W i m σ H ->
 (J.stop i H/\D.nx σ H)∨(J.go i H/\∃ N:St->Hp->Prop,(∀ σ' H',N σ' H'->∃ m',m' < m/\W (i+1) m' σ' H')/\∀ x H',J.yld i H x H'->g x σ H' λσ2 H2=>tb { D with nx:=N,ct:=N,bk:=D.nx } σ2 H2)
def oQ (fp:List Addr) (h:Heap):List (Addr×Obj):=fp.filterMap λb=>(h.get? b).map λo=>(b,o)
theorem mU (hb:b∈fp) (e:h.get? b=some o):(b,o)∈oQ fp h:=Qai.mpr ⟨b,hb,by rw [e]; rfl⟩
theorem tM {p:Addr×Obj} (hp:p∈oQ fp h):p.1∈fp/\h.get? p.1=some p.2:=by
 obtain ⟨b,hb,e⟩:=Qai.mp hp
 cases q:h.get? b with
 | none=>rw [q] at e; cases e
 | some o =>
  rw [q] at e
  have e':(b,o)=p:=Option.some.inj e
  subst e'
  exact ⟨hb,q⟩
theorem Inv.pinned {σ:St} (I:Inv X pins σ H s) (hf:∀ b∈fp,qE X pins H b) (ho:∀ b∈fp,∃ o,s.heap.get? b=some o/\∀ v,o.data≠.cell v):Inv X (pins++oQ fp s.heap) σ H s :=
 I.pins_of λp hp=>(Jh.mp hp).elim (λz=>I.pin p (Jc _ z)) λz=>by
  obtain ⟨hb,e⟩:=tM z
  obtain ⟨f0,f1,f2,_⟩:=hf p.1 hb
  obtain ⟨o,e',d⟩:=ho p.1 hb
  rw [e] at e'; cases e'
  exact ⟨e,f0,f1,f2,d⟩
theorem Inv.unpinned {pl:List (Addr×Obj)} {σ:St} (I:Inv X (pins++pl) σ H s):Inv X pins σ H s:=I.pins_of λp hp=>I.pin p (Jc _ (Jv _ hp))
theorem eF {wi:TI} (hp:PassesOwn (model X.prog X.w) X.A X.env X.xe) (hc:X.calm=true) (hi:PI X tg iter wi) (hg:PG X tg g) (hb:PSs X body tb) (hs:∀ x,foldedSetIterable iter X.env x=pure x:=by intro _; rfl):PS X (.For tg iter body [] pos) (aHM wi g tb):=by
 intro pins s σ H D I h
 refine wpAny_For (thn (hi pins s σ H _ I h) λv s1 h1=>thn h1 λitv s2 h2=>?_) hs
 obtain ⟨it,fp,tn,J,H2,e,I2,T,st2,f2,W,⟨m0,w0⟩,turn⟩:=h2
 subst e
 -- what stays true of the iterator's objects through the loop
 have stat:∀ {H':Hp},(∀ b∈fp,H' b=none)->∀ b∈fp,qE X pins H' b:=λhn b hb=>⟨hn b hb,(f2 b hb).2⟩
 refine codeAny_forLoop_any (λn s'=>∃ i σ' H',Inv X pins σ' H' s'/\tn i s'.heap/\(∀ b∈fp,H' b=none)/\W i n σ' H') ?_ m0 ⟨0,σ,H2,I2,st2,λb hb=>(f2 b hb).1,w0⟩
 rintro n s3 ⟨i,σ3,H3,I3,st3,fr3,w3⟩
 rcases turn i n σ3 H3 w3 with ⟨stop,qn⟩ | ⟨go,N,hN,step⟩
 ·refine Ue hp (thn (T.done X rfl rfl rfl hc i pins s3 σ3 H3 X.xe I3 (stat fr3) st3 stop) λr s4 hx9=>?_)
  obtain ⟨hr,I4⟩:=hx9
  subst hr
  exact Vt ⟨σ3,H3,I4,qn⟩
 ·refine Ue hp (thn (T.item X rfl rfl rfl hc i pins s3 σ3 H3 X.xe I3 (stat fr3) st3 go) λr s4 hx9=>?_)
  obtain ⟨u,hr,h4⟩:=hx9
  subst hr
  refine Ue hp (thn h4 λ_ s5 hx9=>?_)
  obtain ⟨x,H5,I5,r5,y5,st5,fr5⟩:=hx9
  have I5':=I5.pinned (stat fr5) (T.obj _ _ st5)
  refine Ue hp (thn (hg _ s5 σ3 H5 x u _ I5' r5 (step x H5 y5)) λ_ s6 hx9=>?_)
  obtain ⟨σ6,H6,I6,q6⟩:=hx9
  refine Ue hp (thn (hb _ s6 σ6 H6 _ I6 q6) λf s7 q7=>?_)
  have again:∀ {σ7:St} {H7:Hp},Inv X (pins++oQ fp s5.heap) σ7 H7 s7->N σ7 H7->∃ m,m < n/\∃ i σ' H',Inv X pins σ' H' s7/\tn i s7.heap/\(∀ b∈fp,H' b=none)/\W i m σ' H':=λ{σ7 H7} I7 n7=>by
   obtain ⟨m',hm,w7⟩:=hN σ7 H7 n7
   refine ⟨m',hm,i+1,σ7,H7,I7.unpinned,T.keep _ _ _ st5 λb hb o e=>(I7.pin (b,o) (Jc _ (Jc _ (mU hb e)))).1,λb hb=>?_,w7⟩
   obtain ⟨o,e,d⟩:=T.obj _ _ st5 b hb
   exact (I7.pin (b,o) (Jc _ (Jc _ (mU hb e)))).2.1
  cases f with
  | next=>obtain ⟨σ7,H7,I7,n7⟩:=q7; exact again I7 n7
  | cont=>obtain ⟨σ7,H7,I7,n7⟩:=q7; exact again I7 n7
  | brk=>obtain ⟨σ7,H7,I7,q7⟩:=q7; exact ⟨σ7,H7,I7.unpinned,q7⟩
  | ret v=>obtain ⟨x7,σ7,H7,I7,r7,q7⟩:=q7; exact ⟨x7,σ7,H7,I7.unpinned,r7,q7⟩
theorem jO {D:Ends} {σ:St} (Pv:Nat->St->Hp->Prop) (h0:Pv 0 σ H) (hl:∀ i σ H,i<=xs.length->Pv i σ H->SqL K H a xs) (hs:∀ i x σ H,xs[i]?=some x->Pv i σ H->g x σ H λσ2 H2=>tb { D with nx:=Pv (i+1),ct:=Pv (i+1),bk:=D.nx } σ2 H2) (hd:∀ σ H,Pv xs.length σ H->D.nx σ H) :
  ∃ W:Nat->Nat->St->Hp->Prop,(∃ m,W 0 m σ H)/\∀ i m σ H,W i m σ H ->
   ((Itl K a).stop i H/\D.nx σ H)∨((Itl K a).go i H/\∃ N:St->Hp->Prop,(∀ σ' H',N σ' H'->∃ m',m' < m/\W (i+1) m' σ' H')/\∀ x H',(Itl K a).yld i H x H'->g x σ H' λσ2 H2=>tb { D with nx:=N,ct:=N,bk:=D.nx } σ2 H2):=by
 refine ⟨λi m σ H=>m=xs.length - i/\i<=xs.length/\Pv i σ H,⟨xs.length,by simp,Jr _,h0⟩,?_⟩
 rintro i m σ H ⟨rfl,hi,p⟩
 have q:=hl i σ H hi p
 by_cases hlt:i < xs.length
 ·refine .inr ⟨⟨xs,xs[i],q,by simp [hlt]⟩,Pv (i+1),λσ' H' p'=>⟨xs.length - (i+1),by omega,rfl,hlt,p'⟩,λx H' y=>?_⟩
  obtain ⟨e,y⟩:=y
  subst e
  exact hs i x σ _ (y xs q) p
 ·have e:i=xs.length:=by omega
  subst e
  exact .inl ⟨⟨xs,q,Qh _⟩,hd σ H p⟩
theorem lU {D:Ends} {σ:St} (Pv:Nat->St->Hp->Prop) (h0:Pv 0 σ H) (hl:∀ i σ H,i<=xs.length->Pv i σ H->SqT K H a xs) (hs:∀ i x σ H,xs[i]?=some x->Pv i σ H->g x σ H λσ2 H2=>tb { D with nx:=Pv (i+1),ct:=Pv (i+1),bk:=D.nx } σ2 H2) (hd:∀ σ H,Pv xs.length σ H->D.nx σ H) :
  ∃ W:Nat->Nat->St->Hp->Prop,(∃ m,W 0 m σ H)/\∀ i m σ H,W i m σ H ->
   ((Itt K a).stop i H/\D.nx σ H)∨((Itt K a).go i H/\∃ N:St->Hp->Prop,(∀ σ' H',N σ' H'->∃ m',m' < m/\W (i+1) m' σ' H')/\∀ x H',(Itt K a).yld i H x H'->g x σ H' λσ2 H2=>tb { D with nx:=N,ct:=N,bk:=D.nx } σ2 H2):=by
 refine ⟨λi m σ H=>m=xs.length - i/\i<=xs.length/\Pv i σ H,⟨xs.length,by simp,Jr _,h0⟩,?_⟩
 rintro i m σ H ⟨rfl,hi,p⟩
 have q:=hl i σ H hi p
 by_cases hlt:i < xs.length
 ·refine .inr ⟨⟨xs,xs[i],q,by simp [hlt]⟩,Pv (i+1),λσ' H' p'=>⟨xs.length - (i+1),by omega,rfl,hlt,p'⟩,λx H' y=>?_⟩
  obtain ⟨e,y⟩:=y
  subst e
  exact hs i x σ _ (y xs q) p
 ·have e:i=xs.length:=by omega
  subst e
  exact .inl ⟨⟨xs,q,Qh _⟩,hd σ H p⟩
theorem oR {n:Nat} {D:Ends} {σ:St} (Pv:Nat->St->Hp->Prop) (h0:Pv 0 σ H) (hs:∀ i σ H,i < n->Pv i σ H->g (.int (lo+i)) σ H λσ2 H2=>tb { D with nx:=Pv (i+1),ct:=Pv (i+1),bk:=D.nx } σ2 H2) (hd:∀ σ H,Pv n σ H->D.nx σ H) :
  ∃ W:Nat->Nat->St->Hp->Prop,(∃ m,W 0 m σ H)/\∀ i m σ H,W i m σ H ->
   ((Itr lo n).stop i H/\D.nx σ H)∨((Itr lo n).go i H/\∃ N:St->Hp->Prop,(∀ σ' H',N σ' H'->∃ m',m' < m/\W (i+1) m' σ' H')/\∀ x H',(Itr lo n).yld i H x H'->g x σ H' λσ2 H2=>tb { D with nx:=N,ct:=N,bk:=D.nx } σ2 H2):=by
 refine ⟨λi m σ H=>m=n - i/\i<=n/\Pv i σ H,⟨n,by simp,Jr _,h0⟩,?_⟩
 rintro i m σ H ⟨rfl,hi,p⟩
 by_cases hlt:i < n
 ·refine .inr ⟨hlt,Pv (i+1),λσ' H' p'=>⟨n - (i+1),by omega,rfl,hlt,p'⟩,λx H' y=>?_⟩
  obtain ⟨e,y⟩:=y
  subst e y
  exact hs i σ _ hlt p
 ·have e:i=n:=by omega
  subst e
  exact .inl ⟨Qh _,hd σ H p⟩
abbrev R2:=V->V->Hp->VK->Prop
end L2
variable {r r':R2}
namespace L2
open PySem PySem.Spec PyProof.Rows
def OpR (X:Cx) (f:Value->Value->Sem Value) (r:R2):Prop :=
 ∀ (pins:List (Addr×Obj)) (s:Shared) (σ:St) (H:Hp) (x y:V) (v u:Value) (Q:VK),Inv X pins σ H s->bQ x v->bQ y u->r x y H Q ->
  wpAny (model X.prog X.w) X.A (f v u) (EP X pins σ Q) X.xe s
def UnR (X:Cx) (f:Value->Sem Value) (r:V->Hp->VK->Prop):Prop :=
 ∀ (pins:List (Addr×Obj)) (s:Shared) (σ:St) (H:Hp) (x:V) (v:Value) (Q:VK),Inv X pins σ H s->bQ x v->r x H Q ->
  wpAny (model X.prog X.w) X.A (f v) (EP X pins σ Q) X.xe s
def dM (X:Cx) (f:Value) (r:List V->Hp->VK->Prop):Prop :=
 ∀ (pins:List (Addr×Obj)) (s:Shared) (σ:St) (H:Hp) (xs:List V) (us:List Value) (Q:VK),Inv X pins σ H s->bK xs us->r xs H Q ->
  wpAny (model X.prog X.w) X.A (call f us) (EP X pins σ Q) X.xe s
def aHN (X:Cx) (r:V->Hp->(Bool->Hp->Prop)->Prop):Prop :=
 ∀ (pins:List (Addr×Obj)) (s:Shared) (σ:St) (H:Hp) (x:V) (v:Value) (Q:Bool->Hp->Prop),Inv X pins σ H s->bQ x v->r x H Q ->
  wpAny (model X.prog X.w) X.A (truthy v) (TP X pins σ Q) X.xe s
def tOp (r:R2) (ta tb:TE):TE:=λσ H Q=>ta σ H λx H1=>tb σ H1 λy H2=>r x y H2 Q
def tUn (r:V->Hp->VK->Prop) (ta:TE):TE:=λσ H Q=>ta σ H λx H1=>r x H1 Q
def rI (C:Int->Int->Prop) (g:Int->Int->V):R2:=λx y H Q=>∃ i j,x=.int i/\y=.int j/\C i j/\Q (g i j) H
def rI0 (g:Int->Int->V):R2:=λx y H Q=>∃ i j,x=.int i/\y=.int j/\Q (g i j) H
def rU (g:Int->V):V->Hp->VK->Prop:=λx H Q=>∃ i,x=.int i/\Q (g i) H
section
variable {a b c:Expr} {tb tc:TE}
theorem aF6 (ha:PE X a ta) (hb:PE X b tb) {σ:St} {R:V->V->Hp->Prop} (I:Inv X pins σ H s) (h:ta σ H λx H1=>tb σ H1 λy H2=>R x y H2) {f:Value->Value->Sem Value} (hf:∀ v u s2 x y H2,Inv X pins σ H2 s2->bQ x v->bQ y u->R x y H2->wpAny (model X.prog X.w) X.A (f v u) Q X.xe s2) :
  wpAny (model X.prog X.w) X.A (eval a X.env) (λv s1x=>wpAny (model X.prog X.w) X.A (eval b X.env) (λu s2x=>wpAny (model X.prog X.w) X.A (f v u) Q X.xe s2x) X.xe s1x) X.xe s:=by
 refine thn (ha pins s σ H _ I h) λv s1 hx9=>?_
 obtain ⟨x,H1,I1,r1,q1⟩:=hx9
 refine thn (hb pins s1 σ H1 _ I1 q1) λu s2 hx9=>?_
 obtain ⟨y,H2,I2,r2,q2⟩:=hx9
 exact hf v u s2 x y H2 I2 r1 r2 q2
theorem bH {op:Operator} (ho:OpR X (binaryOp op) r) (ha:PE X a ta) (hb:PE X b tb):PE X (.BinOp a op b pos) (tOp r ta tb):=by
 intro pins s σ H Q I h
 exact wpAny_BinOp (aF6 ha hb I h λv u s2 x y H2 I2 rx ry q=>ho pins s2 σ H2 x y v u Q I2 rx ry q)
theorem aFD {op:UnaryOp} {r:V->Hp->VK->Prop} (ho:UnR X (unaryOp op) r) (ha:PE X a ta):PE X (.UnaryOp op a pos) (tUn r ta):=by
 intro pins s σ H Q I h
 refine UnaryOp_ (thn (ha pins s σ H _ I h) λv s1 hx9=>?_)
 obtain ⟨x,H1,I1,r1,q1⟩:=hx9
 exact ho pins s1 σ H1 x v Q I1 r1 q1
theorem opI {f:Value->Value->Sem Value} {C:Int->Int->Prop} {g:Int->Int->Int}
  (rule:∀ (i j:Int) (t u:Tok) (s:Shared) (Q:Value->Shared->Prop) (E:Value->Shared->Prop),C i j->Q (.int (g i j) s.toks) { s with toks:=s.toks+1 }->wpAny (model X.prog X.w) X.A (f (.int i t) (.int j u)) Q E s) :
  OpR X f (rI C λi j=>.int (g i j)):=by
 intro pins s σ H x y v u Q I rx ry h
 obtain ⟨i,j,rfl,rfl,hc,q⟩:=h
 obtain ⟨t,rfl⟩:=rx
 obtain ⟨t',rfl⟩:=ry
 exact rule i j t t' s _ _ hc ⟨.int (g i j),H,I.tok _,⟨_,rfl⟩,q⟩
theorem aG2 {f:Value->Value->Sem Value} {g:Int->Int->Int}
  (rule:∀ (i j:Int) (t u:Tok) (s:Shared) (Q:Value->Shared->Prop) (E:Value->Shared->Prop),Q (.int (g i j) s.toks) { s with toks:=s.toks+1 }->wpAny (model X.prog X.w) X.A (f (.int i t) (.int j u)) Q E s) :
  OpR X f (rI0 λi j=>.int (g i j)):=by
 intro pins s σ H x y v u Q I rx ry h
 obtain ⟨i,j,rfl,rfl,q⟩:=h
 obtain ⟨t,rfl⟩:=rx
 obtain ⟨t',rfl⟩:=ry
 exact rule i j t t' s _ _ ⟨.int (g i j),H,I.tok _,⟨_,rfl⟩,q⟩
theorem aEC {f:Value->Value->Sem Value} {g:Int->Int->Bool}
  (rule:∀ (i j:Int) (t u:Tok) (s:Shared) (Q:Value->Shared->Prop) (E:Value->Shared->Prop),Q (.bool (g i j)) s->wpAny (model X.prog X.w) X.A (f (.int i t) (.int j u)) Q E s) :
  OpR X f (rI0 λi j=>.bl (g i j)):=by
 intro pins s σ H x y v u Q I rx ry h
 obtain ⟨i,j,rfl,rfl,q⟩:=h
 obtain ⟨t,rfl⟩:=rx
 obtain ⟨t',rfl⟩:=ry
 exact rule i j t t' s _ _ ⟨.bl (g i j),H,I,rfl,q⟩
def aHO (i j:Int):Prop:=0<=j/\j<=1000000/\i.natAbs < 2^64
def aF7 (i j:Int):Prop:=(-(2^64) < i/\i < 2^64)∨(-(2^64) < j/\j < 2^64)
theorem aF7.ok {i j:Int} (h:aF7 i j):IntMulOk i j:=by
 rcases h with ⟨h1,h2⟩ | ⟨h1,h2⟩
 ·exact .of_left (intBits_le_64 h1 h2)
 ·exact .of_right (intBits_le_64 h1 h2)
theorem cV:OpR X (binaryOp .Add) (rI0 λi j=>.int (i+j)):=aG2 λ_ _ _ _ _ _ _ q=>add_int q
theorem aF8:OpR X (binaryOp .Sub) (rI0 λi j=>.int (i - j)):=aG2 λ_ _ _ _ _ _ _ q=>sub_int q
theorem iV:OpR X (binaryOp .Mult) (rI aF7 λi j=>.int (i*j)):=opI λ_ _ _ _ _ _ _ hc q=>mul_int q hc.ok
theorem kG:OpR X (binaryOp .Mod) (rI (λ_ j=>0 < j) λi j=>.int (i % j)):=opI λi j _ _ _ _ _ hc q=>by
 have h1:(0:Int) < j:=hc
 exact mod_int' (by omega) (by rw [Int.fmod_eq_emod_of_nonneg i (by omega)]; exact q)
theorem aF9:OpR X (binaryOp .Pow) (rI aHO λi j=>.int (i^j.toNat)):=opI λ_ _ _ _ _ _ _ hc q=>pow_int_small hc.1 hc.2.1 hc.2.2 q
theorem unI {f:Value->Sem Value} {g:Int->Int}
  (rule:∀ (i:Int) (t:Tok) (s:Shared) (Q:Value->Shared->Prop) (E:Value->Shared->Prop),Q (.int (g i) s.toks) { s with toks:=s.toks+1 }->wpAny (model X.prog X.w) X.A (f (.int i t)) Q E s) :
  UnR X f (rU λi=>.int (g i)):=by
 intro pins s σ H x v Q I rx h
 obtain ⟨i,rfl,q⟩:=h
 obtain ⟨t,rfl⟩:=rx
 exact rule i t s _ _ ⟨.int (g i),H,I.tok _,⟨_,rfl⟩,q⟩
theorem aCM:UnR X (unaryOp .USub) (rU λi=>.int (-i)):=unI λ_ _ _ _ _ q=>neg_int q
def aG3:V->V->Bool
 | .non,.non=>true | .non,.int _=>true | .int _,.non=>true | .non,.bl _=>true | .bl _,.non=>true | .non,.str _=>true | .str _,.non=>true
 | .int _,.int _=>true | .bl _,.bl _=>true | .str _,.str _=>true | .byt _,.byt _=>true
 | .int _,.str _=>true | .str _,.int _=>true | .bl _,.str _=>true | .str _,.bl _=>true
 | _,_=>false
def rEq:R2:=λx y H Q=>aG3 x y=true/\Q (.bl (decide (x=y))) H
def rNe:R2:=λx y H Q=>aG3 x y=true/\Q (.bl (!decide (x=y))) H
theorem aAR {i j:Int}:decide (V.int i=V.int j)=(i==j):=by
 rw [Za]
 simp
theorem aCN {i j:Bool}:decide (V.bl i=V.bl j)=(i==j):=by
 rw [Za]
 simp
theorem aAS {i j:Str}:decide (V.str i=V.str j)=(i==j):=by
 rw [Za]
 simp
theorem aAT {i j:Array UInt8}:decide (V.byt i=V.byt j)=(i.toList==j.toList):=by
 rw [Za]
 cases i
 cases j
 simp
theorem bX {σ:St} {Q:VK} {k k':Bool} (I:Inv X pins σ H s) (q:Q (.bl k) H) (e:k=k'):EP X pins σ Q (.bool k') s:=by
 subst e
 exact ⟨.bl k,H,I,rfl,q⟩
theorem gC:OpR X (compareOp .Eq) rEq:=by
 intro pins s σ H x y v u Q I rx ry h
 obtain ⟨hs,q⟩:=h
 cases x with
 | non =>
  cases rx
  cases y with
  | non=>cases ry; exact RaV (bX I q (by simp))
  | bl j=>cases ry; exact RaW (bX I q (by simp))
  | int j=>obtain ⟨t',rfl⟩:=ry; exact RaX (bX I q (by simp))
  | str j=>obtain ⟨t',rfl⟩:=ry; exact RaY (bX I q (by simp))
  | _=>exact absurd (show false=true from hs) Qr
 | bl i =>
  cases rx
  cases y with
  | non=>cases ry; exact RaZ (bX I q (by simp))
  | bl j=>cases ry; exact eq_bool (bX I q aCN)
  | str j=>obtain ⟨t',rfl⟩:=ry; exact RaJ (bX I q (by simp))
  | _=>exact absurd (show false=true from hs) Qr
 | int i =>
  obtain ⟨t,rfl⟩:=rx
  cases y with
  | non=>cases ry; exact Ra0 (bX I q (by simp))
  | int j=>obtain ⟨t',rfl⟩:=ry; exact eq_int (bX I q aAR)
  | str j=>obtain ⟨t',rfl⟩:=ry; exact RaK (bX I q (by simp))
  | _=>exact absurd (show false=true from hs) Qr
 | str i =>
  obtain ⟨t,rfl⟩:=rx
  cases y with
  | non=>cases ry; exact Ra1 (bX I q (by simp))
  | bl j=>cases ry; exact RaL (bX I q (by simp))
  | int j=>obtain ⟨t',rfl⟩:=ry; exact RaM (bX I q (by simp))
  | str j=>obtain ⟨t',rfl⟩:=ry; exact eq_str (bX I q aAS)
  | _=>exact absurd (show false=true from hs) Qr
 | byt i =>
  obtain ⟨t,rfl⟩:=rx
  cases y with
  | byt j=>obtain ⟨t',rfl⟩:=ry; exact PySem.W.eq_bytes (bX I q aAT)
  | _=>exact absurd (show false=true from hs) Qr
 | _=>cases y <;> exact absurd (show false=true from hs) Qr
theorem pT:OpR X (compareOp .NotEq) rNe:=by
 intro pins s σ H x y v u Q I rx ry h
 obtain ⟨hs,q⟩:=h
 cases x with
 | non =>
  cases rx
  cases y with
  | non=>cases ry; exact Ra2 (bX I q (by simp))
  | bl j=>cases ry; exact Ra3 (bX I q (by simp))
  | int j=>obtain ⟨t',rfl⟩:=ry; exact Ra4 (bX I q (by simp))
  | str j=>obtain ⟨t',rfl⟩:=ry; exact Ra5 (bX I q (by simp))
  | _=>exact absurd (show false=true from hs) Qr
 | bl i =>
  cases rx
  cases y with
  | non=>cases ry; exact Ra6 (bX I q (by simp))
  | bl j=>cases ry; exact ne_bool (bX I q (congrArg not aCN))
  | str j=>obtain ⟨t',rfl⟩:=ry; exact RaN (bX I q (by simp))
  | _=>exact absurd (show false=true from hs) Qr
 | int i =>
  obtain ⟨t,rfl⟩:=rx
  cases y with
  | non=>cases ry; exact Ra7 (bX I q (by simp))
  | int j=>obtain ⟨t',rfl⟩:=ry; exact ne_int (bX I q (congrArg not aAR))
  | str j=>obtain ⟨t',rfl⟩:=ry; exact RaO (bX I q (by simp))
  | _=>exact absurd (show false=true from hs) Qr
 | str i =>
  obtain ⟨t,rfl⟩:=rx
  cases y with
  | non=>cases ry; exact Ra8 (bX I q (by simp))
  | bl j=>cases ry; exact RaP (bX I q (by simp))
  | int j=>obtain ⟨t',rfl⟩:=ry; exact RaQ (bX I q (by simp))
  | str j=>obtain ⟨t',rfl⟩:=ry; exact ne_str (bX I q (congrArg not aAS))
  | _=>exact absurd (show false=true from hs) Qr
 | byt i =>
  obtain ⟨t,rfl⟩:=rx
  cases y with
  | byt j=>obtain ⟨t',rfl⟩:=ry; exact PySem.W.ne_bytes (bX I q (congrArg not aAT))
  | _=>exact absurd (show false=true from hs) Qr
 | _=>cases y <;> exact absurd (show false=true from hs) Qr
theorem wS:OpR X (compareOp .Lt) (rI0 λi j=>.bl (decide (i < j))):=aEC λ_ _ _ _ _ _ _ q=>lt_int q
theorem qT:OpR X (compareOp .LtE) (rI0 λi j=>.bl (decide (i<=j))):=aEC λ_ _ _ _ _ _ _ q=>le_int q
theorem aAU:OpR X (compareOp .Gt) (rI0 λi j=>.bl (decide (j < i))):=aEC λ_ _ _ _ _ _ _ q=>gt_int q
theorem wT:OpR X (compareOp .GtE) (rI0 λi j=>.bl (decide (j<=i))):=aEC λ_ _ _ _ _ _ _ q=>ge_int q
theorem OpR.or {f:Value->Value->Sem Value} (h:OpR X f r) (h':OpR X f r'):OpR X f (λx y H Q=>r x y H Q∨r' x y H Q):=by
 intro pins s σ H x y v u Q I rx ry q
 rcases q with q | q
 ·exact h pins s σ H x y v u Q I rx ry q
 ·exact h' pins s σ H x y v u Q I rx ry q
theorem bD (b:Expr) (h:op≠.In:=by decide) (h2:op≠.NotIn:=by decide):behindInMarks op b=false:=by
 have e1:(op==CmpOp.In)=false:=by cases op <;> first | rfl | exact absurd rfl h
 have e2:(op==CmpOp.NotIn)=false:=by cases op <;> first | rfl | exact absurd rfl h2
 cases b <;> simp [behindInMarks,e1,e2]
theorem fI (ho:OpR X (compareOp op) r) (ha:PE X a ta) (hb:PE X b tb) (hm:behindInMarks op b=false):PE X (.Compare a [op] [b] pos) (tOp r ta tb):=by
 intro pins s σ H Q I h
 exact wpAny_Compare1 (aF6 ha hb I h λv u s2 x y H2 I2 rx ry q=>ho pins s2 σ H2 x y v u Q I2 rx ry q) hm
def aFE (t:TE):TT:=λσ H Q=>t σ H λx H'=>∃ k,x=.bl k/\Q k H'
theorem bE (ho:OpR X (compareOp op) r) (ha:PE X a ta) (hb:PE X b tb) (hm:behindInMarks op b=false):PT X (.Compare a [op] [b] pos) (aFE (tOp r ta tb)):=by
 intro pins s σ H Q I h
 refine Raj (thn (ha pins s σ H _ I h) λv s1 ⟨x,H1,I1,r1,q1⟩=>thn (hb pins s1 σ H1 _ I1 q1) λu s2 ⟨y,H2,I2,r2,q2⟩ =>
  thn (ho pins s2 σ H2 x y v u _ I2 r1 r2 q2) λc s3 ⟨z,H3,I3,r3,k,e,q3⟩=>?_) hm
 subst e
 cases r3
 exact Rt ⟨H3,I3,q3⟩
def aCO (r r':R2) (ta tb tc:TE):TE:=λσ H Q=>ta σ H λx H1=>tb σ H1 λy H2=>r x y H2 λz H3=>∃ k,z=.bl k /\
 (if k=true then tc σ H3 λw' H4=>r' y w' H4 Q else Q (.bl false) H3)
theorem aCP {op':CmpOp} (ho:OpR X (compareOp op) r) (ho':OpR X (compareOp op') r') (ha:PE X a ta) (hb:PE X b tb) (hc:PE X c tc) (hm:lastMarks [op,op'] [b,c]=false:=by with_unfolding_all rfl):PE X (.Compare a [op,op'] [b,c] pos) (aCO r r' ta tb tc):=by
 intro pins s σ H Q I h
 refine Compare_chain (thn (ha pins s σ H _ I h) λv s1 ⟨x,H1,I1,r1,q1⟩=>chain_link (thn (hb pins s1 σ H1 _ I1 q1) λu s2 ⟨y,H2,I2,r2,q2⟩ =>
  thn (ho pins s2 σ H2 x y v u _ I2 r1 r2 q2) λd s3 ⟨z,H3,I3,r3,k,e,q3⟩=>?_)) hm
 subst e
 cases r3
 refine Rt ?_
 cases k with
 | false=>exact ite_ff ⟨.bl false,H3,I3,rfl,q3⟩
 | true=>exact ite_tt (chain_last (thn (hc pins s3 σ H3 _ I3 q3) λw' s4 ⟨z',H4,I4,r4,q4⟩=>ho' pins s4 σ H4 y z' u w' Q I4 r2 r4 q4))
theorem aCQ {op':CmpOp} (ho:OpR X (compareOp op) r) (ho':OpR X (compareOp op') r') (ha:PE X a ta) (hb:PE X b tb) (hc:PE X c tc) (hm:lastMarks [op,op'] [b,c]=false:=by with_unfolding_all rfl):PT X (.Compare a [op,op'] [b,c] pos) (aFE (aCO r r' ta tb tc)):=by
 intro pins s σ H Q I h
 refine isTrue_chain (thn (ha pins s σ H _ I h) λv s1 ⟨x,H1,I1,r1,q1⟩=>test_link (thn (hb pins s1 σ H1 _ I1 q1) λu s2 ⟨y,H2,I2,r2,q2⟩ =>
  thn (ho pins s2 σ H2 x y v u _ I2 r1 r2 q2) λd s3 ⟨z,H3,I3,r3,k,e,q3⟩=>?_)) hm
 subst e
 cases r3
 refine Rt ?_
 cases k with
 | false =>
  obtain ⟨k',e',q'⟩:=q3
  cases e'
  exact ite_ff ⟨H3,I3,q'⟩
 | true =>
  refine ite_tt (test_last (thn (hc pins s3 σ H3 _ I3 q3) λw' s4 ⟨z',H4,I4,r4,q4⟩=>thn (ho' pins s4 σ H4 y z' u w' _ I4 r2 r4 q4) λd' s5 hx9=>?_))
  obtain ⟨z2,H5,I5,r5,k2,e2,q5⟩:=hx9
  subst e2
  cases r5
  exact Rt ⟨H5,I5,q5⟩
def aG4 (K:Rc) (x:V) (H:Hp) (k:Bool):Prop :=
 match x with
 | .non=>k=false
 | .bl b=>k=b
 | .int i=>k=(i !=0)
 | .str y=>y.length<=sizeLine/\k=((y.length:Int) !=0)
 | .byt y=>y.size<=sizeLine/\k=((y.size:Int) !=0)
 | .ref p=>(∃ xs,SqL K H p xs/\k=!xs.isEmpty)∨(∃ xs,SqT K H p xs/\k=!xs.isEmpty)∨∃ kvs,H p=some (.dK kvs)/\k=!kvs.isEmpty
 | _=>False
theorem zP {kvs:List (κ×V)} {vs:List (κ×Value)} (r:KV kvs vs):(!vs.isEmpty)=!kvs.isEmpty:=by
 cases r <;> rfl
theorem qU {its:List Value} (r:bK xs its):(!its.toArray.isEmpty)=!xs.isEmpty:=by
 cases r <;> simp
theorem oS:(sizeLine:Nat) < 2^63:=by rw [Rf]; decide
theorem aGa:aHN X (λx H Q=>∃ k,aG4 X.K x H k/\Q k H):=by
 intro pins s σ H x v Q I rx h
 obtain ⟨k,e,q⟩:=h
 have hl:=oS
 have hs:sizeLine=16777216:=Rf
 cases x with
 | non =>
  cases rx
  have e':k=false:=e
  subst e'
  exact truthy_none ⟨H,I,q⟩
 | bl b =>
  cases rx
  have e':k=b:=e
  subst e'
  exact Rt ⟨H,I,q⟩
 | int i =>
  obtain ⟨t,rfl⟩:=rx
  have e':k=(i !=0):=e
  subst e'
  exact PySem.P.truthy_int ⟨H,I,q⟩
 | str y =>
  obtain ⟨t,rfl⟩:=rx
  obtain ⟨hy,e'⟩:y.length<=sizeLine/\k=((y.length:Int) !=0):=e
  subst e'
  exact PySem.P.truthy_str (by omega) ⟨H,I.tok _,q⟩
 | byt y =>
  obtain ⟨t,rfl⟩:=rx
  obtain ⟨hy,e'⟩:y.size<=sizeLine/\k=((y.size:Int) !=0):=e
  subst e'
  exact PySem.W.truthy_bytes (by omega) ⟨H,I.tok _,q⟩
 | ref p =>
  cases rx
  have e':(∃ xs,SqL X.K H p xs/\k=!xs.isEmpty)∨(∃ xs,SqT X.K H p xs/\k=!xs.isEmpty)∨∃ kvs,H p=some (.dK kvs)/\k=!kvs.isEmpty:=e
  rcases e' with ⟨xs,hx,e'⟩ | ⟨xs,hx,e'⟩ | ⟨kvs,hx,e'⟩
  ·subst e'
   obtain ⟨its,r,pl,hz⟩:=I.list hx
   have hlen:=r.length
   exact wpAny_truthy_list pl.isList (by simp only [Ql]; omega) ⟨H,I.tok _,by rw [qU r]; exact q⟩
  ·subst e'
   obtain ⟨its,r,pl,hz⟩:=I.tuple hx
   have hlen:=r.length
   exact truthy_tuple pl (by simp only [Ql]; omega) ⟨H,I.tok _,by rw [qU r]; exact q⟩
  ·subst e'
   obtain ⟨hz,hS,vs,r,m⟩:kvs.length<=sizeLine/\(p==sysModules)=false/\∃ vs,KV kvs vs/\s.heap.DictOf (cA X.prog X.w) p vs:=I.hok p _ hx
   have hlen:kvs.length=vs.length:=Paired.length r
   exact wpAny_truthy_dict hS m (by omega) ⟨H,I.tok _,by rw [zP r]; exact q⟩
 | _=>exact (show False from e).elim
theorem aCR (ha:PE X a ta) (he:∀ whole,isTrue a X.env whole=(do let v<-whole; standAt a.pos; holding [v] (truthy v))) :
  PT X a (λσ H Q=>ta σ H λx H'=>∃ k,aG4 X.K x H' k/\Q k H'):=by
 intro pins s σ H Q I h
 refine isTrue_plain (thn (ha pins s σ H _ I h) λv s1 hx9=>?_) (he _)
 obtain ⟨x,H1,I1,r1,q1⟩:=hx9
 exact aGa pins s1 σ H1 x v Q I1 r1 q1
theorem fX (r:bK [x] us):∃ u,us = [u]/\bQ x u:=by
 cases r with
 | cons r1 r2=>cases r2; exact ⟨_,rfl,r1⟩
theorem pU (r:bK [x,y] us):∃ u w',us = [u,w']/\bQ x u/\bQ y w':=by
 cases r with
 | cons r1 r2 =>
  cases r2 with
  | cons r3 r4=>cases r4; exact ⟨_,_,rfl,r1,r3⟩
end
structure ObjM (h:Heap) (x dx C:Addr) (mA:Str->Option Value):Prop where
 obj:h.get? x=some (Tv C dx)
 ns:h.Ns1 dx mA
 ne:dx≠x
theorem aBQ (n:h.Ns1 dx mA):∃ od,h.get? dx=some od/\∀ name,Iq name od=some (mA name):=by
 obtain ⟨o,es,ep,ho,hd,hk,_,hm⟩:=n
 refine ⟨o,ho,λname=>?_⟩
 have e:=hm name
 unfold nsFind findBy at e
 rw [<- Array.find?_toList] at e
 unfold Iq
 rw [hd]
 dsimp only
 split
 ·rename_i y q
  rw [q] at e
  exact congrArg some e
 ·rename_i q
  rw [q] at e
  have a:es.toList.any (·.refKey)=false:=by
   rw [List.any_eq_false]
   intro y hy
   obtain ⟨z,t,hkey⟩:=hk y (Array.mem_toList_iff.mp hy)
   simp [DictEntry.refKey,hkey]
  have a':¬ es.toList.any (·.refKey)=true:=by rw [a]; exact Qr
  rw [if_neg a']
  exact congrArg some e
theorem ObjM.look {x:Addr} (I:ObjM h x dx C mA):∃ od,PySem.W.InstAt h x (Tv C dx) C (some od)/\∀ name,Iq name od=some (mA name) :=
 let ⟨od,ho,hl⟩:=aBQ I.ns
 ⟨od,⟨I.obj,rfl,rfl,ho⟩,hl⟩
section
variable {x:Addr} {v:Value}
end
theorem mG.some_of {o:Option Value} (r:mG (some v) o):∃ u,o=some u/\bQ v u:=by
 cases o with
 | none=>exact (show False from r).elim
 | some u=>exact ⟨u,rfl,r⟩
theorem mG.none_of {o:Option Value} (r:mG none o):o=none:=by
 cases o with
 | none=>rfl
 | some u=>exact (show False from r).elim
section
variable {fs fs':List (Str×V)}
end
structure Cls (K:Rc) (C:Addr):Prop where
 pg:Rad K C Str.empty=true
 hd:PySem.W.hasDictIn K C=true
 po:PySem.W.plainOver K C=true
 sa:Ud K (.ref C) "__setattr__" = some (some (.builtin "object.__setattr__"))
theorem Cls.get (c:Cls K C) (f:Str):Rad K C f=true:=c.pg
def aCS (K:Rc) (C:Addr) (f:Str):Prop:=Ud K (.ref C) f=some none
theorem aCS.taker {f:Str} (n:aCS K C f):Rag K C f=some none:=by
 unfold Rag
 rw [show Ud K (.ref C) f=some none from n]
 rfl
structure Con (K:Rc) (C:Addr) (f:Str) (v:V) (u:Value):Prop where
 at_:Ud K (.ref C) f=some (some u)
 rel:bQ v u
 get:Rab K u "__get__" = some none
 cp:PySem.W.copiedNames.contains f=false
structure Meth (K:Rc) (C:Addr) (m:Str) (f:Addr):Prop where
 at_:Ud K (.ref C) m=some (some (.ref f))
 fn:Rau K (.ref f)=true
 kp:Tn K (.ref f)=true
section
variable {σ:St} {fs:List (Str×V)} {f:Str}
theorem Inv.made (I:Inv X pins σ H s):Inv X pins σ (upd (upd H s.heap.objs.size (.own (s.heap.objs.size+1))) (s.heap.objs.size+1) (.ins C s.heap.objs.size []))
  { s with heap:=(s.heap.push Tc).push (Tv C s.heap.objs.size) }:=by
 have e1:(s.heap.push Tc).get? s.heap.objs.size=some Tc:=Qg s.heap rfl
 have e2:((s.heap.push Tc).push (Tv C s.heap.objs.size)).get? (s.heap.objs.size+1)=some (Tv C s.heap.objs.size):=by
  have:=Qg (s.heap.push Tc) (o:=Tv C s.heap.objs.size) rfl
  rwa [Jk] at this
 have e3:(s.heap.push Tc).Ns s.heap.objs.size (λ_=>none):=⟨Tc,#[],_,e1,rfl,(λe he=>absurd he (by simp)),λ_=>rfl⟩
 have I1:=I.laid (a:=s.heap.objs.size) (o:=.own (s.heap.objs.size+1)) (h':=s.heap.push Tc) (t':=s.toks) (λb u q=>Qa _ q) (Qh _) ⟨_,e1⟩
 refine I1.laid (a:=s.heap.objs.size+1) (o:=.ins C s.heap.objs.size []) (t':=s.toks) (λb u q=>Qa _ q) (Qar (Jk _ _)) ?_
 have ne:s.heap.objs.size≠s.heap.objs.size+1:=Qz (Xx _)
 refine ⟨by rw [aH ne,aB],Jr _,ne,e2,λ_=>none,(Heap.Ns1.of_empty e3).at λo q=>Qa _ q,λ_=>True.intro,λy hy=>absurd rfl hy⟩
end
section
variable {o:Expr} {f:Str}
end
section
variable {σ:St} {c:Value} {b:Bool}
inductive TyOf (K:Rc) (H:Hp):V->Value->Prop where
 | non:TyOf K H .non (.type "NoneType")
 | bl (x:Bool):TyOf K H (.bl x) (.type "bool")
 | int (i:Int):TyOf K H (.int i) (.type "int")
 | str (x:Str):TyOf K H (.str x) (.type "str")
 | flt (x:UInt64):TyOf K H (.flt x) (.type "float")
 | lst {a:Addr} {xs:List V} (e:H a=some (.lst xs)):TyOf K H (.ref a) (.type "list")
 | frz {a:Addr} {o:Obj} {xs:List V} (e:H a=some (.frz o (.lst xs))):TyOf K H (.ref a) (.type "list")
 | tup {a:Addr} {xs:List V} (e:H a=some (.tup xs)):TyOf K H (.ref a) (.type "tuple")
 | dK {a:Addr} {kvs:List (Key×V)} (e:H a=some (.dK kvs)):TyOf K H (.ref a) (.type "dict")
 | dT {a:Addr} {kvs:List (List Key×V)} (e:H a=some (.dT kvs)):TyOf K H (.ref a) (.type "dict")
 | ins {a C dx:Addr} {fs:List (Str×V)} (e:H a=some (.ins C dx fs)) (cl:Cls K C) (ha:Ud K (.ref C) "__class__" = some (some (.builtin "object.__class__")))
   (hn:Rab K (.builtin "object.__class__") "__get__" = some (some (.builtin "getset_descriptor.__get__"))) (htk:PySem.W.takesIn K (.builtin "object.__class__")=some true)
   (hm:PySem.W.mroIn K C (.type "object")=some true):TyOf K H (.ref a) (.ref C)
end
structure Room (k:Nat) (A:Around):Prop where
 hd:A.handled=none
 dp:A.depth+3*k+5 < recursionLimit
 un:A.units+16*k+200 < cLine
 gd:A.guards=some []
theorem Room.mono {k:Nat} (r:Room k A) (h:j<=k):Room j A:=⟨r.hd,by have:=r.dp; omega,by have:=r.un; omega,r.gd⟩
theorem Room.deeper {k:Nat} (r:Room (k+1) A) (env:Env):Room k (A.deeper env) :=
 ⟨r.hd,by have:=r.dp; show A.depth+1+3*k+5 < _; omega,by have:=r.un; show A.units+3+16*k+200 < _; omega,r.gd⟩
theorem Room.in1 {k:Nat} (r:Room (k+1) A):Room k A.in1 :=
 ⟨r.hd,by have:=r.dp; show A.depth+3*k+5 < _; omega,by have:=r.un; show A.units+1+16*k+200 < _; omega,r.gd⟩
theorem Room.depth {k:Nat} (r:Room k A):A.depth < recursionLimit:=by have:=r.dp; omega
theorem Room.units {k:Nat} (r:Room k A):A.units+64 < cLine:=by have:=r.un; omega
abbrev aBR:TA:=λ_ H Q=>Q [] H
abbrev tN (ta:TE) (tr:TA):TA:=λσ H Q=>ta σ H λx H1=>tr σ H1 λxs H2=>Q (x::xs) H2
section
variable {t:TA}
theorem aC:PA X [] aBR:=λ_ _ _ _ H Q I h=>Calls.spliced_nil ⟨[],H,I,.nil,h⟩
theorem aA (ha:PE X e te) (hr:PA X es t) (hs:starEach (e::es) X.env=(false,eval e X.env)::starEach es X.env:=by rfl):PA X (e::es) (tN te t):=by
 intro pos pins s σ H Q I h
 rw [hs]
 show wpAny _ _ (spliced ((false,eval e X.env)::backTo pos (starEach es X.env))) _ _ s
 refine Calls.spliced_cons (thn (ha pins s σ H _ I h) λu s1 hx9=>?_)
 obtain ⟨x,H1,I1,r1,q1⟩:=hx9
 refine thn (hr pos pins s1 σ H1 _ I1 q1) λus s2 hx9=>?_
 obtain ⟨xs,H2,I2,r2,q2⟩:=hx9
 exact ⟨x::xs,H2,I2,.cons r1 r2,q2⟩
def aG5 (t:TA):TE:=λσ H Q=>t σ H λxs H1=>xs.length<=sizeLine/\∀ p,H1 p=none->Q (.ref p) (upd H1 p (.tup xs))
def aHP (t:TA):TE:=λσ H Q=>t σ H λxs H1=>xs.length<=sizeLine/\∀ p,H1 p=none->Q (.ref p) (upd H1 p (.lst xs))
theorem cH {x1} (h:PA X es t):PE X (.Tuple es x1 pos) (aG5 t):=by
 intro pins s σ H Q I hq
 refine wpAny_Tuple_spliced (thn (h pos pins s σ H _ I hq) λus s1 ⟨xs,H1,I1,r,z,q⟩=>⟨by rw [<- r.length]; exact z,?_⟩)
 have hf:H1 s1.heap.objs.size=none:=I1.hok.fresh (Qh _)
 refine ⟨.ref s1.heap.objs.size,upd H1 s1.heap.objs.size (.tup xs),I1.laid (t':=s1.toks) (λb u e=>Qa _ e) (Qh _) ?_,rfl,q _ hf⟩
 exact ⟨z,us,0,r,Qg _ rfl⟩
theorem eP (h:PA X es t):PE X (.List es pos) (aHP t):=by
 intro pins s σ H Q I hq
 refine wpAny_List_spliced (thn (h pos pins s σ H _ I hq) λus s1 ⟨xs,H1,I1,r,z,q⟩=>⟨by rw [<- r.length]; exact z,?_⟩)
 have hf:H1 s1.heap.objs.size=none:=I1.hok.fresh (Qh _)
 refine ⟨.ref s1.heap.objs.size,upd H1 s1.heap.objs.size (.lst xs),I1.laid (t':=s1.toks) (λb u e=>Qa _ e) (Qh _) ?_,rfl,q _ hf⟩
 exact ⟨z,us,0,r,Qg _ rfl⟩
end
abbrev Sp:=List V->Hp->VK->XK->Prop
end L2
variable {sp:Sp}
namespace L2
open PySem PySem.Spec PyProof.Rows
abbrev CXT:=List Env->Hp->Shared->XK->Value->Shared->Prop
end L2
variable {CX:CXT}
namespace L2
open PySem PySem.Spec PyProof.Rows
structure Env0 (P:Program) (w:World) (K:Rc) (mg:Str->Option Value) (base:Heap) (A:Around) (outer:List Env) (s:Shared) (H:Hp):Prop where
 frames:A.frames=some outer
 mod:Mod K mg base
 bs:∀ b o,base.get? b=some o->s.heap.get? b=some o/\H b=none
 bsz:base.objs.size<=s.heap.objs.size
 funs:s.heap.FunFrames base outer
 frf:∀ b∈frs outer,H b=none
 hok:HOk P w H s.heap
 bare:AllBare s.gens
def CE (outer:List Env) (P:Program) (w:World) (H:Hp) (s:Shared) (Q:VK) (u:Value) (s':Shared):Prop :=
 ∃ v H',s'.os=s.os/\AllBare s'.gens/\Un (frs outer) [] H H' s.heap s'.heap/\HOk P w H' s'.heap/\bQ v u/\Q v H'
def CR (CX:CXT) (outer:List Env) (P:Program) (w:World) (H:Hp) (s:Shared) (Q:VK) (E:XK) (r:Result) (s':Shared):Prop :=
 match r with
 | .ok (.ret u)=>CE outer P w H s Q u s'
 | .ok _=>False
 | .error e=>CX outer H s E e s'
structure FnOk (P:Program) (w:World) (K:Rc) (mg:Str->Option Value) (base:Heap) (CX:CXT) (k:Nat) (f:Addr) (fd:FuncData) (ps:List Str) (sp:Sp):Prop where
 len:∀ vs H Q E,sp vs H Q E->vs.length=ps.length
 run:∀ (A:Around) (outer:List Env) (s:Shared) (H:Hp) (args:Args) (us:List Value) (vs:List V) (Q:VK) (E:XK),Room k A->Env0 P w K mg base A outer s H->BindsTo s fd args (ps.zip us)->bK vs us->sp vs H Q E ->
  codeAny (model P w) A (.call (.ref f) args) (CR CX outer P w H s Q E) s
theorem FnOk.mono {k:Nat} (F:FnOk P w K mg base CX j f fd ps sp) (h:j<=k) :
  FnOk P w K mg base CX k f fd ps sp:=⟨F.len,λA outer s H args us vs Q E hr=>F.run A outer s H args us vs Q E (hr.mono h)⟩
theorem FnOk.imp {k:Nat} {sp':Sp} (F:FnOk P w K mg base CX k f fd ps sp) (h:∀ vs H Q E,sp' vs H Q E->sp vs H Q E):FnOk P w K mg base CX k f fd ps sp' :=
 ⟨λvs H Q E q=>F.len vs H Q E (h _ _ _ _ q),λA outer s H args us vs Q E hr he hb hv hs=>F.run A outer s H args us vs Q E hr he hb hv (h _ _ _ _ hs)⟩
theorem Env0.in1 (e:Env0 P w K mg base A outer s H) :
  Env0 P w K mg base A.in1 outer s H:=⟨e.frames,e.mod,e.bs,e.bsz,e.funs,e.frf,e.hok,e.bare⟩
section
variable {σ:St}
theorem Inv.env0 (I:Inv X pins σ H s):Env0 X.prog X.w X.K X.mg X.base X.A X.stack s H :=
 ⟨I.ok.frames,I.ok.mod,I.bs,Je I.ok.bsz I.sz,I.stack,I.stkFree,I.hok,I.bare⟩
theorem Inv.after {Q:VK} (I:Inv X pins σ H s) (h:CE X.stack X.prog X.w H s Q u s'):EP X pins σ Q u s':=by
 obtain ⟨v,H',os,bare,un,hok,r,q⟩:=h
 obtain ⟨hh,g,d,t,os'⟩:=s'
 obtain rfl:os'=s.os:=os
 exact ⟨v,H',I.call (h':=hh) (g':=g) (d':=d) (t':=t) (ch:=[]) un hok bare (λb z=>absurd z (by simp)),r,q⟩
end
def aFF (sp:Sp) (dvs:List V) (E:XK) (t:TA):TE:=λσ H Q=>t σ H λvs H1=>sp (vs++dvs) H1 Q E
def tO (K:Rc) (fd:FuncData) (ps:List Str) (ds:List Value):Prop :=
 ∀ (s:Shared) (us:List Value),K.In s.heap->(us++ds).length=ps.length->BindsTo s fd ⟨us,[]⟩ (ps.zip (us++ds))
theorem tO.all (h:∀ us:List Value,us.length=ps.length->bindArgs fd ⟨us,[]⟩=pure (ps.zip us)):tO K fd ps []:=λs us _ hl=>by
 rw [Zk] at hl ⊢
 exact .of_eq (h us hl)
def zQ (CX:CXT) (X:Cx) (E:XK):Prop:=∀ (pins:List (Addr×Obj)) (σ:St) (H:Hp) (s:Shared) (e:Value) (s':Shared),Inv X pins σ H s->CX X.stack H s E e s'->X.xe e s'
section
variable {k:Nat} {dvs:List V} {ds:List Value} {E:XK} {x m:Str} {o:Expr} {t:TA}
theorem aGb {σ:St} {Q:VK} (F:FnOk X.prog X.w X.K X.mg X.base CX k f fd ps sp) (hr:Room k X.A) (hb:tO X.K fd ps ds) (hd:bK dvs ds) (hx:zQ CX X E) (I:Inv X pins σ H s) (r:bK vs us) (h:sp (vs++dvs) H Q E):wpAny (model X.prog X.w) X.A (call (.ref f) us) (EP X pins σ Q) X.xe s:=by
 have r2:bK (vs++dvs) (us++ds):=r.append hd
 have hl:(us++ds).length=ps.length:=by rw [<- r2.length]; exact F.len _ _ _ _ h
 refine Im (Uo (F.run X.A X.stack s H ⟨us,[]⟩ (us++ds) (vs++dvs) Q E hr I.env0 (hb s us I.kIn hl) r2 h) λr s' hq=>?_)
 cases r with
 | error e=>exact hx pins σ H s e s' I hq
 | ok fl =>
  cases fl with
  | ret u=>exact I.after hq
  | next=>exact False.elim hq
  | brk=>exact False.elim hq
  | cont=>exact False.elim hq
theorem aED (F:FnOk X.prog X.w X.K X.mg X.base CX k f fd ps sp) (hr:Room k X.A) (hg:Gl X x) (hm:X.mg x=some (.ref f)) (hk:Tn X.K (.ref f)=true) (hb:tO X.K fd ps ds) (hd:bK dvs ds) (hx:zQ CX X E)
  (ha:PA X (e::es) t) (hdb:(x==("__debug__" : Str))=false:=by decide) (he:starEach (e::es) X.env=(false,eval e X.env)::starEach es X.env:=by rfl) (hpl:(backTo pos (starEach es X.env)).any (·.1)=false:=by rfl) :
  PE X (.Call (.Name x p) (e::es) [] pos) (aFF sp dvs E t):=by
 intro pins s σ H Q I h
 refine Uc (aAP I hg hm ?_ hdb)
 refine PySem.W.callWith_K (h₀:=X.base) I.ok.mod.kin hk (thn (ha pos pins s σ H _ I h) λus s1 ⟨vs,H1,I1,r,q⟩=>⟨I1.kIn,?_⟩) he hpl
 exact aGb F hr hb hd hx I1 r q
structure Mk (K:Rc) (C f:Addr):Prop where
 makes:PySem.W.makesIn K C=true
 init:Ud K (.ref C) "__init__" = some (some (.ref f))
 fn:Rau K (.ref f)=true
 kp:Tn K (.ref C)=true
end
def PK (X:Cx) (kws:List Keyword) (t:TA):Prop :=
 ∀ (pos:Pos) (pins:List (Addr×Obj)) (s:Shared) (σ:St) (H:Hp) (Q:List V->Hp->Prop),Inv X pins σ H s->t σ H Q->wpAny (model X.prog X.w) X.A (evalAll ((backToKw pos (keywordEach kws X.env)).map (·.2))) (AP X pins σ Q) X.xe s
section
variable {k:Nat} {ks:List Str} {E:XK} {x m:Str} {o:Expr} {kws:List Keyword} {t tk:TA} {nm:Option Str}
theorem aGc:PK X [] aBR:=λ_ _ _ _ H Q I h=>wpAny_evalAll_nil ⟨[],H,I,.nil,h⟩
theorem aEE (ha:PE X e te) (hr:PK X kws t):PK X (⟨nm,e,kpos⟩::kws) (tN te t):=by
 intro pos pins s σ H Q I h
 show wpAny _ _ (evalAll ((do let v<-eval e X.env; standAt pos; pure v)::(backToKw pos (keywordEach kws X.env)).map (·.2))) _ _ s
 refine wpAny_evalAll_cons (Ra (thn (ha pins s σ H _ I h) λu s1 ⟨x,H1,I1,r1,q1⟩=>Ra (Tg (Rb ?_))))
 refine thn (hr pos pins s1 σ H1 _ I1 q1) λus s2 hx9=>?_
 obtain ⟨xs,H2,I2,r2,q2⟩:=hx9
 exact ⟨x::xs,H2,I2,.cons r1 r2,q2⟩
structure KBinds (K:Rc) (fd:FuncData) (ps ks:List Str) (g:List Value->List Value->List Value) (gV:List V->List V->List V):Prop where
 to:∀ (s:Shared) (us ws:List Value),K.In s.heap->(g us ws).length=ps.length->BindsTo s fd ⟨us,ks.zip ws⟩ (ps.zip (g us ws))
 rel:∀ {vs:List V} {us:List Value} {zs:List V} {ws:List Value},bK vs us->bK zs ws->bK (gV vs zs) (g us ws)
variable {g:List Value->List Value->List Value} {gV:List V->List V->List V}
end
structure FnScope (N P:List Str) (sc:Scope):Prop where
 kind:sc.kind=.function
 co:sc.isCoroutine=false
 gen:sc.isGenerator=false
 nd:N.Nodup
 pre:N.take P.length=P
 par:∀ x∈P,sc.names.lookup x=some .local∨sc.names.lookup x=some .cell
 nofree:∀ y∈sc.names,y.2≠.free
theorem tP {x:Str}:∀ {binds:List (Str×Value)} {m:Str->Option Value},(∀ v,(x,v)∉binds)->bindL kindOf binds m x=m x
 | [],_,_=>rfl
 | (n,v)::r,m,h=>by
  unfold bindL
  rw [tP λw hw=>h w (Qk _ hw)]
  split
  ·have:x≠n:=by rintro rfl; exact h v Qj
   simp [this]
  ·rfl
theorem tQ {x:Str}:∀ {binds:List (Str×Value)} {m:Str->Option Value},(∀ v,(x,v)∉binds)->bindC kindOf binds m x=m x
 | [],_,_=>rfl
 | (n,v)::r,m,h=>by
  unfold bindC
  rw [tQ λw hw=>h w (Qk _ hw)]
  split
  ·rfl
  ·have:x≠n:=by rintro rfl; exact h v Qj
   simp [this]
theorem tR {x:Str} {v:Value}:∀ {P:List Str} {vs:List Value} {i:Nat} {m:Str->Option Value},P.Nodup->P[i]?=some x->vs[i]?=some v->kindOf x=some .local ->
  bindL kindOf (P.zip vs) m x=some v
 | [],_,_,_,_,h,_,_=>by simp at h
 | _::_,[],_,_,_,_,h,_=>by simp at h
 | p::P,w::vs,0,m,nd,h1,h2,hk=>by
  simp at h1 h2; subst h1; subst h2
  show bindL kindOf ((p,w)::P.zip vs) m p=_
  unfold bindL
  rw [tP λv hv=>(Xf.mp nd).1 (Wv hv).1,if_pos hk]
  simp
 | p::P,w::vs,i+1,m,nd,h1,h2,hk=>by
  show bindL kindOf ((p,w)::P.zip vs) m x=_
  unfold bindL
  exact tR (i:=i) (Xf.mp nd).2 (by simpa using h1) (by simpa using h2) hk
theorem tS {x:Str} {v:Value}:∀ {P:List Str} {vs:List Value} {i:Nat} {m:Str->Option Value},P.Nodup->P[i]?=some x->vs[i]?=some v->kindOf x≠some .local ->
  bindC kindOf (P.zip vs) m x=some v
 | [],_,_,_,_,h,_,_=>by simp at h
 | _::_,[],_,_,_,_,h,_=>by simp at h
 | p::P,w::vs,0,m,nd,h1,h2,hk=>by
  simp at h1 h2; subst h1; subst h2
  show bindC kindOf ((p,w)::P.zip vs) m p=_
  unfold bindC
  rw [tQ λv hv=>(Xf.mp nd).1 (Wv hv).1,if_neg hk]
  simp
 | p::P,w::vs,i+1,m,nd,h1,h2,hk=>by
  show bindC kindOf ((p,w)::P.zip vs) m x=_
  unfold bindC
  exact tS (i:=i) (Xf.mp nd).2 (by simpa using h1) (by simpa using h2) hk
def start (N:List Str) (vs:List V):St:=vs.map some++List.replicate (N.length - vs.length) none
def zR (CX:CXT) (P:Program) (w:World) (K:Rc) (mg:Str->Option Value) (base:Heap) (N:List Str) (qual:Str) (scope:Scope) (f:Addr) (cd:Value) (A:Around) (outer:List Env) (s:Shared) (H:Hp) (E:XK):Cx where
 prog:=P
 w:=w
 K:=K
 mg:=mg
 base:=base
 A:=A.deeper (envOfC qual scope s.heap.objs.size f cd)
 N:=N
 s0x:=s
 H0x:=H
 env:=envOfC qual scope s.heap.objs.size f cd
 outer:=outer
 stack:=envOfC qual scope s.heap.objs.size f cd::outer
 ex:=[]
 calm:=true
 fn:=λ_=>true
 pn:=[]
 xe:=λe s'=>wpAny (model P w) (A.deeper (envOfC qual scope s.heap.objs.size f cd)) (leaving (envOfC qual scope s.heap.objs.size f cd) e) (λ_ s''=>CX outer H s E e s'') (λe' s''=>CX outer H s E e' s'') s'
theorem wU {sc:Scope} {n:Nat} {x:Str} (h:sc.names.lookup x=some .cell):∃ c,(cellsFrom n sc.names []).lookup x=some c:=by
 have q:=Mg sc.names n [] (.inl h)
 exact We.mp q
theorem aBS {cd:Value} {s1:Shared} {E:XK} (S:FnScope N ps scope) (hd:A.handled=none) (e0:Env0 P w K mg base A outer s H) (hl:vs.length=ps.length) (r:bK vs us) (x:InCallC s s.heap.objs.size (bindL (envOfC qual scope s.heap.objs.size f cd).kindOf (ps.zip us) λ_=>none) (cellsFrom (s.heap.objs.size+1) scope.names []) (bindC (envOfC qual scope s.heap.objs.size f cd).kindOf (ps.zip us) λ_=>none) s1) :
  Inv (zR CX P w K mg base N qual scope f cd A outer s H E) [] (start N vs) H s1:=by
 have hpl:ps.length<=N.length:=by have:=congrArg Yk S.pre; rw [Qv] at this; omega
 obtain ⟨h1,tk,rfl,hk⟩:=x.done
 have noA:∀ b:Addr,b∉(zR CX P w K mg base N qual scope f cd A outer s H E).ex:=λb z=>absurd (show b∈([]:List Addr) from z) (by simp)
 refine ⟨⟨e0.mod,S.kind,rfl,rfl,Qh _,λy z c h1 h2=>?_,λy hy=>?_,λy c _ h=>?_,λ_=>hd,Around.frames_deeper e0.frames,.inr ⟨rfl,rfl⟩,λb z=>absurd z (noA b),e0.bs,e0.bsz,λb _ _=>noA b,λb z=>absurd z (noA b),e0.funs,e0.frf⟩,
  rfl,e0.bare,Un.kept hk,⟨_,x.toInCall.ns,λi y v h1 h2 h3=>?_⟩,λy c h=>⟨_,x.cell y c h⟩,e0.hok.fresh (Qh _),λy c h=>?_,λp hp=>absurd (show p∈([]:List (Addr×Obj)) from hp) (by simp),e0.hok.kept hk,?_⟩
 ·exact name_of_addr x.apart (Uj h1) (Uj h2)
 ·have hy:scope.names.lookup y=some .cell∨scope.names.lookup y=some .free:=hy
  rcases hy with hy | hy
  ·exact wU hy
  ·exact absurd rfl (S.nofree _ (Uj hy))
 ·exact Yo (x.above y c (Uj h))
 ·have hi:i < vs.length:=by
   unfold start at h2
   by_cases hi:i < vs.length
   ·exact hi
   ·rw [Ji (by simpa using hi)] at h2
    rw [Xq] at h2
    split at h2 <;> cases h2
  have ha:vs[i]?=some v:=by
   unfold start at h2
   rw [Qt (by simpa using hi),Qe] at h2
   cases e:vs[i]? with
   | none=>rw [e] at h2; cases h2
   | some a=>rw [e] at h2; cases h2; rfl
  obtain ⟨u,hu,rv⟩:=r.get ha
  have hp:ps[i]?=some y:=by
   rw [<- S.pre,Wf (by omega)]; exact h1
  have ndP:ps.Nodup:=by rw [<- S.pre]; exact S.nd.sublist (List.take_sublist _ _)
  refine ⟨u,rv,?_⟩
  rcases S.par y (Qi hp) with k | k
  ·exact .inl ⟨k,tR ndP hp hu k⟩
  ·obtain ⟨c,e⟩:=wU (n:=s.heap.objs.size+1) k
   refine .inr ⟨.inl k,c,e,?_⟩
   have q:=x.cell y c e
   rw [tS ndP hp hu (by show scope.names.lookup y≠_; rw [k]; decide)] at q
   exact q
 ·exact e0.hok.fresh (Yo (x.above y c (Uj h)))
 ·unfold start
  show _=N.length
  rw [Qq,Qb,Xn]
  omega
theorem aFG {k:Nat} {dV kV:Value} (lk:K.lookup f=some ⟨oc,od,.func (Ti name qual params body scope dV kV doc pm an cdv ct),osl⟩) (hcd:Vd K cdv qual=true) (S:FnScope N ps scope) (len:∀ vs H Q E,sp vs H Q E->vs.length=ps.length) (hbody:∀ (A:Around) (outer:List Env) (s:Shared) (H:Hp) (vs:List V) (Q:VK) (E:XK),Room k (A.deeper (envOfC qual scope s.heap.objs.size f cdv))->sp vs H Q E ->
   ∃ t,PSs (zR CX P w K mg base N qual scope f cdv A outer s H E) body t/\t { nx:=λ_ H'=>Q .non H',rt:=Q } (start N vs) H) :
  FnOk P w K mg base CX (k+1) f (Ti name qual params body scope dV kV doc pm an cdv ct) ps sp:=by
 refine ⟨len,λA outer s H args us vs Q E hr e0 hb r hsp=>?_⟩
 have hl:=len _ _ _ _ hsp
 have KX:K.In s.heap:=e0.mod.kin.keeps λb o e=>(e0.bs b o e).1
 have lim:s.heap.NoLimit:=e0.mod.nolimit.keeps λb o e=>(e0.bs b o e).1
 have hkind:∀ y∈ps.zip us,scope.names.lookup y.1=some .local∨(scope.names.lookup y.1=some .cell/\((cellsFrom (s.heap.objs.size+1) scope.names []).lookup y.1).isSome=true):=λ⟨n,v⟩ hy=>by
  rcases S.par n (Wv hy).1 with q | q
  ·exact .inl q
  ·exact .inr ⟨q,Mg _ _ _ (.inl q)⟩
 refine codeAny_call_function hr.depth (KX _ _ lk) rfl S.co S.gen rfl (PySem.W.codeRec_of KX hcd) (hb _ _ _ _ ?_)
 refine wpAny_newFunctionEnv_cells S.kind hkind λenv he s1 x=>?_
 subst he
 refine ⟨lim.keeps x.toInCall.keep,codeAny_func ?_⟩
 obtain ⟨t,ht,hq⟩:=hbody A outer s H vs Q E (hr.deeper _) hsp
 have I:Inv (zR CX P w K mg base N qual scope f cdv A outer s H E) [] (start N vs) H s1:=aBS S hr.hd e0 hl r x
 refine Rn (ht [] s1 (start N vs) H _ I hq) (λfl s' hs=>?_) λe s' hs=>hs
 have fin:∀ {σ':St} {H':Hp} {v:V} {u:Value},Inv (zR CX P w K mg base N qual scope f cdv A outer s H E) [] σ' H' s'->bQ v u->Q v H'->CE outer P w H s Q u s' :=
  λ{σ' H' v u} J rv q=>⟨v,H',J.os,J.bare,J.base,J.hok,rv,q⟩
 cases fl with
 | ret u =>
  obtain ⟨v,σ',H',J,rv,q⟩:=hs
  exact fin J rv q
 | next =>
  obtain ⟨σ',H',J,q⟩:=hs
  exact fin (v:=V.non) (u:=Value.none) J rfl q
 | brk =>
  obtain ⟨_,_,_,q⟩:=hs
  exact False.elim q
 | cont =>
  obtain ⟨_,_,_,q⟩:=hs
  exact False.elim q
section
variable {x:Str} {t:TA} {id:String} {r:List V->Hp->VK->Prop}
def tCB (r:List V->Hp->VK->Prop) (t:TA):TE:=λσ H Q=>t σ H λvs H1=>r vs H1 Q
theorem aM (hc:dM X (.builtin id) r) (hg:Gl X x) (hm:X.mg x=none) (hv:bootBuiltins x=some (.builtin id)) (ha:PA X (e::es) t) (hn:x ≠ "__name__" := by decide) (hdb:(x==("__debug__" : Str))=false:=by decide)
  (he:starEach (e::es) X.env=(false,eval e X.env)::starEach es X.env:=by rfl) (hpl:(backTo pos (starEach es X.env)).any (·.1)=false:=by rfl):PE X (.Call (.Name x p) (e::es) [] pos) (tCB r t):=by
 intro pins s σ H Q I h
 refine Uc (iU I hg hm hv ?_ hn hdb)
 refine PyProof.Rows.callWith_builtin1 (thn (ha pos pins s σ H _ I h) λus s1 hx9=>?_) he hpl
 obtain ⟨vs,H1,I1,r1,q1⟩:=hx9
 exact hc pins s1 σ H1 vs us Q I1 r1 q1
theorem bR (hc:dM X (.type T) r) (hg:Gl X x) (hm:X.mg x=none) (hv:bootBuiltins x=some (.type T)) (ha:PA X (e::es) t) (hn:x ≠ "__name__" := by decide) (hdb:(x==("__debug__" : Str))=false:=by decide)
  (he:starEach (e::es) X.env=(false,eval e X.env)::starEach es X.env:=by rfl) (hpl:(backTo pos (starEach es X.env)).any (·.1)=false:=by rfl):PE X (.Call (.Name x p) (e::es) [] pos) (tCB r t):=by
 intro pins s σ H Q I h
 refine Uc (iU I hg hm hv ?_ hn hdb)
 refine PyProof.Rows.callWith_type1 (thn (ha pos pins s σ H _ I h) λus s1 hx9=>?_) he hpl
 obtain ⟨vs,H1,I1,r1,q1⟩:=hx9
 exact hc pins s1 σ H1 vs us Q I1 r1 q1
end
end L2
namespace HT
open PySem PyProof.Rows
section
open PySem.SeqAt
open PySem.AutoSeq1 (wpAny_loadPart')
open PySem.MeetsSeq PySem.MeetsSeq2 PySem.MeetsSeq3
end
theorem cat_tup {t:Addr} {vs ws:List Value} (ht:IsTup s.heap t vs.toArray) (hb:IsTup s.heap b ws.toArray) (hv:vs≠[]) (h1:ws = []->Q (.ref t) s) (h2:ws≠[]->Q (.ref s.heap.objs.size) { s with heap:=s.heap.push { cls:=.type "tuple",data:=.seq (vs++ws).toArray } }) (hsz:vs.length+ws.length<=sizeLine):wpAny (model prog w) A (binaryOp .Add (.ref t) (.ref b)) Q E s:=by
 obtain ⟨⟨cls,dd,data,sl⟩,ho,hc,n,hd⟩:=id ht
 obtain ⟨⟨cls2,dd2,data2,sl2⟩,ho2,hc2,n2,hd2⟩:=id hb
 simp only at hc hd hc2 hd2
 subst hc hd hc2 hd2
 have e:vs.toArray++ws.toArray=(vs++ws).toArray:=by simp
 by_cases hw:ws = []
 ·exact Iw ⟨_,ho,rfl⟩ ⟨_,ho2,rfl⟩ Vp Ie Up Ul (Uk _ _)
   (tuple_addW1 t b vs.toArray ws.toArray n n2 dd dd2 sl sl2 (by simpa using hv) (by simp [hw])) ⟨ho,ho2,h1 hw⟩
 ·refine Iw ⟨_,ho,rfl⟩ ⟨_,ho2,rfl⟩ Vp Ie Up Ul (Uk _ _)
   (tuple_addW2 t b vs.toArray ws.toArray n n2 dd dd2 sl sl2 (by simpa using hv) (by simpa using hw) (by rw [Ql,Ql]; exact hsz)) ⟨ho,ho2,?_⟩
  rw [e]
  exact h2 hw
def sIx (n d:Nat):Option Int->Nat
 | none=>d
 | some v=>if v < 0 then (v+(n:Int)).toNat else min v.toNat n
theorem sIx_none (n d:Nat):sIx n d none=d:=rfl
theorem sIx_nat (n d k:Nat):sIx n d (some (k:Int))=min k n:=by
 show (if (k:Int) < 0 then ((k:Int)+(n:Int)).toNat else min (k:Int).toNat n)=min k n
 rw [if_neg (by omega),Jj]
theorem aGd (n d:Nat) (hd:d<=n) (o:Option Int):sIx n d o<=n:=by
 cases o with
 | none=>exact hd
 | some v =>
  show (if v < 0 then (v+(n:Int)).toNat else min v.toNat n)<=n
  by_cases hv:v < 0
  ·rw [if_pos hv]; omega
  ·rw [if_neg hv]; exact Nat.min_le_right _ _
theorem aAV (v:Int) (n d:Nat):(if v < 0 then max (v+(n:Int)) 0 else min v (n:Int))=((sIx n d (some v):Nat):Int):=by
 show (if v < 0 then max (v+(n:Int)) 0 else min v (n:Int))=(((if v < 0 then (v+(n:Int)).toNat else min v.toNat n):Nat):Int)
 by_cases hv:v < 0
 ·simp only [if_pos hv]; omega
 ·simp only [if_neg hv]; omega
theorem zS (lo hi:Option Int) (n:Nat):Builtin.Slice.sliceAdjust lo hi 1 (n:Int)=(((sIx n 0 lo:Nat):Int),((sIx n n hi:Nat):Int)):=by
 have h1:¬ ((1:Int) < 0):=by omega
 unfold Builtin.Slice.sliceAdjust
 simp only [h1,if_false]
 refine Prod.ext ?_ ?_
 ·cases lo with
  | none=>rfl
  | some v=>exact aAV v n 0
 ·cases hi with
  | none=>rfl
  | some v=>exact aAV v n n
theorem zT (i j:Nat):Builtin.Slice.slicePlaces (i:Int) (j:Int) 1=j - i:=by
 unfold Builtin.Slice.slicePlaces
 have h1:(1:Int) > 0:=by omega
 simp only [h1,if_true,Int.ediv_one]
 split <;> omega
theorem qV {v:Value} {o:Option Int} {Q:Option Int->Shared->Prop} (p:IsPart v o) (h:Q o s):wpAny (model prog w) A (Builtin.Slice.slicePartIndex v) Q E s:=by
 cases p with
 | none=>exact slicePart_none h
 | int i t=>exact slicePart_int h
theorem sliceApplied_gen {lo:Option Int} {n:Nat} {Q:Int×Int×Nat->Shared->Prop} (hs:s.heap.IsSliceOf sl vl vu .none) (pl:IsPart vl lo) (pu:IsPart vu hi) (h:Q (((sIx n 0 lo:Nat):Int),1,sIx n n hi - sIx n 0 lo) s):wpAny (model prog w) A (Builtin.Slice.sliceApplied (.ref sl) (pure (n:Int))) Q E s:=by
 obtain ⟨os,hos,hcs,hds⟩:=id hs
 unfold Builtin.Slice.sliceApplied Builtin.Slice.sliceFields
 refine Ra (Ra (Ri hos hds (x:=vl) rfl (Ra (Ri hos hds (x:=vu) rfl (Ra (Ri hos hds (x:=.none) rfl (Rb ?_)))))))
 refine Ra (slicePart_none ?_)
 show wpAny _ _ (if ((1:Int)==0)=true then _ else _) _ _ s
 rw [if_neg (by decide)]
 refine Ra (qV pl (Ra (qV pu (Ra (Rb ?_)))))
 show wpAny _ _ (match Builtin.Slice.sliceAdjust lo hi 1 (n:Int) with | (lo,hi)=>pure (lo,(1:Int),Builtin.Slice.slicePlaces lo hi 1)) _ _ s
 rw [zS lo hi n]
 show wpAny _ _ (pure (((sIx n 0 lo:Nat):Int),(1:Int),Builtin.Slice.slicePlaces ((sIx n 0 lo:Nat):Int) ((sIx n n hi:Nat):Int) 1)) _ _ s
 rw [zT]
 exact Rb h
theorem pick_gen (xs:Array Value) (i k:Nat):((List.range k).filterMap λ(m:Nat)=>xs[((i:Int)+(m:Int)*1).toNat]?).toArray=((xs.toList.drop i).take k).toArray:=by
 have e:(λ(m:Nat)=>xs[((i:Int)+(m:Int)*1).toNat]?)=λm=>xs[i+m]?:=by
  funext m
  have:((i:Int)+(m:Int)*1).toNat=i+m:=by omega
  rw [this]
 rw [e]
 have:=pick_run xs i k
 rw [Zv] at this
 have e2:((λx=>xs[x]?) ∘ λx=>i+x)=λm=>xs[i+m]?:=rfl
 rw [e2] at this
 rw [this]
theorem getItem_tuple_cut {t:Addr} {lo:Option Int} (ht:IsTup s.heap t items) (hs:s.heap.IsSliceOf sl vl vu .none) (pl:IsPart vl lo) (pu:IsPart vu hi) (hw:¬ (sIx items.size 0 lo=0/\sIx items.size items.size hi=items.size)) (h:Q (.ref s.heap.objs.size) { s with heap:=s.heap.push { cls:=.type "tuple",data:=.seq ((items.toList.drop (sIx items.size 0 lo)).take (sIx items.size items.size hi - sIx items.size 0 lo)).toArray } }) (hsz:items.size<=sizeLine):wpAny (model prog w) A (getItem (.ref t) (.ref sl)) Q E s:=by
 have htake:sizeOk (.seq ((items.toList.drop (sIx items.size 0 lo)).take (sIx items.size items.size hi - sIx items.size 0 lo)).toArray):=by
  show ((items.toList.drop (sIx items.size 0 lo)).take (sIx items.size items.size hi - sIx items.size 0 lo)).toArray.size<=sizeLine
  rw [Ql,Qv,Jy,Array.length_toList]
  omega
 have hj:sIx items.size items.size hi<=items.size:=aGd _ _ (Qh _) hi
 obtain ⟨os,hos,hcs,hds⟩:=id hs
 have hTs:s.TypeIs (.ref sl) "slice" := ⟨os,hos,hcs⟩
 unfold getItem
 try with_reducible refine Rl ?_
 first | refine Ra (Rb ?_) | skip
 refine Ra (RaD ht.typeIs (by decide) ?_)
 refine Ra (Rh (name:=Str.ofString "__getitem__") ht.typeIs PyProof.Rows.slot_tuple_getitem
  (Rj PyProof.Rows.slot_tuple_getitem ht.typeIs Rax ?_ (Ray _ _)))
 show wpAny _ _ (Builtin.Tuple.tupleItemsOf (.ref t) >>= _) _ _ s
 refine Ra (tupleItemsOf_ ht ?_)
 refine Ra (Vh hTs ?_)
 rw [if_pos (by decide)]
 refine Ra (sliceApplied_gen hs pl pu ?_)
 have hno:¬ ((((sIx items.size 0 lo:Nat):Int)==0 && (1:Int)==1 && (sIx items.size items.size hi - sIx items.size 0 lo)==items.size)=true):=by
  intro q
  rw [Jn,Jn] at q
  have q1:((sIx items.size 0 lo:Nat):Int)=0:=eq_of_beq q.1.1
  have q2:sIx items.size items.size hi - sIx items.size 0 lo=items.size:=eq_of_beq q.2
  exact hw ⟨by omega,by omega⟩
 show wpAny _ _ (if (((sIx items.size 0 lo:Nat):Int)==0 && (1:Int)==1 && (sIx items.size items.size hi - sIx items.size 0 lo)==items.size)=true then _ else _) _ _ s
 rw [if_neg hno,pick_gen]
 first
  | exact Ra (m:=Builtin.Tuple.tupleExact _) (Rk (Rb ⟨_,rfl,Rb h⟩) htake)
  | exact Ra (m:=Builtin.Tuple.tupleExact _) (Rk (Ra (Rb (Rb ⟨_,rfl,Rb h⟩))) htake)
  | exact Ra (Ra (m:=Builtin.Tuple.tupleExact _) (Rk (Rb (Rb ⟨_,rfl,Rb h⟩)) htake))
  | exact Ra (Ra (m:=Builtin.Tuple.tupleExact _) (Rk (Rb ⟨_,rfl,Rb h⟩) htake))
end HT
namespace L2
open PySem PySem.Spec PyProof.Rows
abbrev TO:=St->Hp->(Option Int->Hp->Prop)->Prop
def PO (X:Cx) (e:Option Expr) (t:TO):Prop :=
 ∀ (pins:List (Addr×Obj)) (s:Shared) (σ:St) (H:Hp) (Q:Option Int->Hp->Prop),Inv X pins σ H s->t σ H Q ->
  wpAny (model X.prog X.w) X.A (evalPart e X.env) (λu s'=>∃ o H',Inv X pins σ H' s'/\IsPart u o/\Q o H') X.xe s
def uU:TO:=λ_ H Q=>Q none H
def aCT (t:TE):TO:=λσ H Q=>t σ H λx H1=>∃ i,x=.int i/\Q (some i) H1
theorem gM:∀ {us:List Value},bK (ns.map V.int) us->IntsAre us ns:=by
 induction ns with
 | nil=>intro us r; rw [Yp] at r; cases r; exact .nil
 | cons n ns ih =>
  intro us r
  rw [Qy] at r
  cases r with
  | cons r1 r2 =>
   obtain ⟨t,e⟩:=r1
   subst e
   exact .cons n t (ih r2)
section
variable {lo hi:Option Expr} {tl th:TO}
theorem gR:PO X none uU:=by
 intro pins s σ H Q I h
 rw [Ig]
 exact Rb ⟨none,H,I,.none,h⟩
theorem gS (h:PE X e te):PO X (some e) (aCT te):=by
 intro pins s σ H Q I hw
 rw [evalPart_some]
 refine thn (h pins s σ H _ I hw) λu s1 hx9=>?_
 obtain ⟨x,H1,I1,r1,q1⟩:=hx9
 obtain ⟨i,rfl,q⟩:=q1
 obtain ⟨t,rfl⟩:=r1
 exact ⟨some i,H1,I1,.int i t,q⟩
def SlR (X:Cx) (r:V->Option Int->Option Int->Hp->VK->Prop):Prop :=
 ∀ (pins:List (Addr×Obj)) (s:Shared) (σ:St) (H:Hp) (x:V) (v vl vu:Value) (lo hi:Option Int) (sl:Addr) (Q:VK),Inv X pins σ H s->bQ x v->s.heap.IsSliceOf sl vl vu .none->IsPart vl lo->IsPart vu hi->r x lo hi H Q ->
  ∃ T id,typeLookup (.type T) "__getitem__" = pure (some (.builtin id))/\s.TypeIs v T/\wpAny (model X.prog X.w) X.A (getItem v (.ref sl)) (EP X pins σ Q) X.xe s
theorem SlR.or {r r':V->Option Int->Option Int->Hp->VK->Prop} (h:SlR X r) (h':SlR X r'):SlR X (λx lo hi H Q=>r x lo hi H Q∨r' x lo hi H Q):=by
 intro pins s σ H x v vl vu lo hi sl Q I rx hs pl pu q
 rcases q with q | q
 ·exact h pins s σ H x v vl vu lo hi sl Q I rx hs pl pu q
 ·exact h' pins s σ H x v vl vu lo hi sl Q I rx hs pl pu q
def tSl (r:V->Option Int->Option Int->Hp->VK->Prop) (te:TE) (tl th:TO):TE:=λσ H Q=>te σ H λx H1=>tl σ H1 λl H2=>th σ H2 λu H3=>r x l u H3 Q
theorem eW {r:V->Option Int->Option Int->Hp->VK->Prop} (hr:SlR X r) (he:PE X e te) (hl:PO X lo tl) (hu:PO X hi th):PE X (.Subscript e (.Slice lo hi none p2) pos) (tSl r te tl th):=by
 intro pins s σ H Q I h
 refine Io (thn (he pins s σ H _ I h) λv s1 hx9=>?_)
 obtain ⟨x,H1,I1,r1,q1⟩:=hx9
 refine wpAny_Slice (thn (hl pins s1 σ H1 _ I1 q1) λvl s2 ⟨l,H2,I2,pl,q2⟩=>thn (hu pins s2 σ H2 _ I2 q2) λvu s3 hx9=>?_)
 obtain ⟨u,H3,I3,pu,q3⟩:=hx9
 rw [Ig]
 refine Rb ?_
 have I4:Inv X pins σ H3 { s3 with heap:=s3.heap.push { cls:=.type "slice",data:=.fields #[vl,vu,.none] } }:=I3.kept (t':=s3.toks) λb ob q=>Qa _ q
 obtain ⟨T,id,hT,ht,hg⟩:=hr pins { s3 with heap:=s3.heap.push { cls:=.type "slice",data:=.fields #[vl,vu,.none] } } σ H3 x v vl vu l u s3.heap.objs.size Q I4 r1 (Heap.IsSliceOf.new ..) pl pu q3
 show wpAny (model X.prog X.w) X.A (subscriptTail e (.Slice lo hi none p2) v (.ref s3.heap.objs.size)) (EP X pins σ Q) X.xe { s3 with heap:=s3.heap.push { cls:=.type "slice",data:=.fields #[vl,vu,.none] } }
 exact tail_any (ops:=[.ref s3.heap.objs.size,v]) ht hT hg (by with_unfolding_all rfl)
def mV (xs:List V) (lo hi:Option Int):List V:=(xs.drop (HT.sIx xs.length 0 lo)).take (HT.sIx xs.length xs.length hi - HT.sIx xs.length 0 lo)
theorem pV (xs:List V) (lo hi:Option Int):(mV xs lo hi).length<=xs.length:=by
 unfold mV
 rw [Qv,Jy]
 exact Je (Nat.min_le_right _ _) (Nat.sub_le _ _)
def aHQ (K:Rc):V->Option Int->Option Int->Hp->VK->Prop:=λx lo hi H Q=>∃ a xs,x=.ref a/\SqT K H a xs /\
 ¬ (HT.sIx xs.length 0 lo=0/\HT.sIx xs.length xs.length hi=xs.length)/\∀ p,H p=none->Q (.ref p) (upd H p (.tup (mV xs lo hi)))
theorem aGe:SlR X (aHQ X.K):=by
 intro pins s σ H x v vl vu lo hi sl Q I rx hs pl pu h
 obtain ⟨a,xs,rfl,hx,hw,q⟩:=h
 cases rx
 obtain ⟨its,r,ht,hz⟩:=I.tuple hx
 have hlen:its.toArray.size=xs.length:=by rw [Ql]; exact r.length.symm
 refine ⟨"tuple",_,PyProof.Rows.slot_tuple_getitem.lookup,ht.typeIs,?_⟩
 refine HT.getItem_tuple_cut ht hs pl pu (by rw [hlen]; exact hw) ?_ (by rw [hlen]; exact hz)
 rw [hlen]
 refine ⟨.ref s.heap.objs.size,_,I.laid (t':=s.toks) (o:=.tup (mV xs lo hi)) (λb ob q=>Qa _ q) (Qh _) ?_,rfl,q _ (I.hok.fresh (Qh _))⟩
 exact ⟨Je (pV xs lo hi) hz,_,0,(r.drop (HT.sIx xs.length 0 lo)).take (HT.sIx xs.length xs.length hi - HT.sIx xs.length 0 lo),Qg _ rfl⟩
def aG6 (K:Rc):R2:=λx y H Q=>∃ a b xs ys,x=.ref a/\y=.ref b/\SqT K H a xs/\SqT K H b ys/\xs≠[]/\xs.length+ys.length<=sizeLine /\
 (ys = []->Q (.ref a) H)/\(ys≠[]->∀ p,H p=none->Q (.ref p) (upd H p (.tup (xs++ys))))
theorem bK.nil_iff (r:bK xs us):us = []↔xs = []:=by
 cases r with
 | nil=>simp
 | cons _ _=>simp
theorem aAW:OpR X (binaryOp .Add) (aG6 X.K):=by
 intro pins s σ H x y v u Q I rx ry h
 obtain ⟨a,b,xs,ys,rfl,rfl,ha,hb,hx,hz,q1,q2⟩:=h
 cases rx
 cases ry
 obtain ⟨its,r1,p1,_⟩:=I.tuple ha
 obtain ⟨its2,r2,p2,_⟩:=I.tuple hb
 refine HT.cat_tup p1 p2 (λz=>hx (r1.nil_iff.mp z)) (λz=>⟨.ref a,H,I,rfl,q1 (r2.nil_iff.mp z)⟩) (λz=>?_) (by rw [<- r1.length,<- r2.length]; exact hz)
 refine ⟨.ref s.heap.objs.size,_,I.laid (t':=s.toks) (o:=.tup (xs++ys)) (λb ob q=>Qa _ q) (Qh _) ?_,rfl,q2 (λw=>z (r2.nil_iff.mpr w)) _ (I.hok.fresh (Qh _))⟩
 exact ⟨by rw [Qq]; exact hz,_,0,r1.append r2,Qg _ rfl⟩
end
def ixN (n:Nat) (i:Int):Option Nat:=if 0<=i then (if i < n then some i.toNat else none) else if -(n:Int)<=i then some (i+n).toNat else none
def atI (xs:List α) (i:Int):Option α:=(ixN xs.length i).bind λj=>xs[j]?
theorem aAX {n:Nat} {i:Int} (h:ixN n i=some j):seqIndex? i n=some j/\j < n/\-(n:Int)<=i/\i < n:=by
 unfold ixN at h
 by_cases h0:0<=i
 ·rw [if_pos h0] at h
  by_cases h1:i < n
  ·rw [if_pos h1] at h
   have e:i.toNat=j:=Option.some.inj h
   exact ⟨by rw [Rap h0 h1,e],by omega,by omega,h1⟩
  ·rw [if_neg h1] at h; cases h
 ·rw [if_neg h0] at h
  by_cases h1:-(n:Int)<=i
  ·rw [if_pos h1] at h
   have e:(i+n).toNat=j:=Option.some.inj h
   exact ⟨by rw [Rah (by omega) h1,e],by omega,h1,by omega⟩
  ·rw [if_neg h1] at h; cases h
theorem uV {xs:List α} {i:Int} {v:α} (h:atI xs i=some v):∃ j,seqIndex? i xs.length=some j/\xs[j]?=some v/\j < xs.length/\-(xs.length:Int)<=i/\i < xs.length:=by
 unfold atI at h
 cases e:ixN xs.length i with
 | none=>rw [e] at h; cases h
 | some j =>
  rw [e] at h
  obtain ⟨h1,h2,h3,h4⟩:=aAX e
  exact ⟨j,h1,h,h2,h3,h4⟩
theorem cF {xs:List α} {v:α} (h:xs[j]?=some v):atI xs (j:Int)=some v:=by
 have hj:j < xs.length:=(Qd.mp h).1
 have e:ixN xs.length (j:Int)=some j:=by
  unfold ixN
  rw [if_pos (by omega),if_pos (by omega)]; simp
 unfold atI; rw [e]; exact h
def aEF (b:Expr):Prop:=∀ o i,subscripted b false o i=operate [o,i] (getItem o i)
def IxR (X:Cx) (r:R2):Prop :=
 ∀ (value slice:Expr) (pins:List (Addr×Obj)) (s:Shared) (σ:St) (H:Hp) (x y:V) (v u:Value) (Q:VK),Inv X pins σ H s->bQ x v->bQ y u->r x y H Q ->
  subscripted slice false v u=operate [v,u] (getItem v u)->wpAny (model X.prog X.w) X.A (subscriptTail value slice v u) (EP X pins σ Q) X.xe s
def MtR (X:Cx) (id:String) (r:V->List V->Hp->VK->Prop):Prop :=
 ∀ (pins:List (Addr×Obj)) (s:Shared) (σ:St) (H:Hp) (x:V) (xs:List V) (v:Value) (us:List Value) (Q:VK),Inv X pins σ H s->bQ x v->bK xs us->r x xs H Q ->
  wpAny (model X.prog X.w) X.A (call (.builtin id) (v::us)) (EP X pins σ Q) X.xe s
section
variable {a b:Expr} {tb:TE}
theorem IxR.or (h:IxR X r) (h':IxR X r'):IxR X (λx y H Q=>r x y H Q∨r' x y H Q):=by
 intro value slice pins s σ H x y v u Q I rx ry q hs
 rcases q with q | q
 ·exact h value slice pins s σ H x y v u Q I rx ry q hs
 ·exact h' value slice pins s σ H x y v u Q I rx ry q hs
theorem MtR.or {id:String} {r r':V->List V->Hp->VK->Prop} (h:MtR X id r) (h':MtR X id r'):MtR X id (λx xs H Q=>r x xs H Q∨r' x xs H Q):=by
 intro pins s σ H x xs v us Q I rx rs q
 rcases q with q | q
 ·exact h pins s σ H x xs v us Q I rx rs q
 ·exact h' pins s σ H x xs v us Q I rx rs q
theorem aZ (hr:IxR X r) (ha:PE X a ta) (hb:PE X b tb) (hs:aEF b):PE X (.Subscript a b pos) (tOp r ta tb):=by
 intro pins s σ H Q I h
 exact Io (aF6 ha hb I h λv u s2 x y H2 I2 rx ry q=>hr a b pins s2 σ H2 x y v u Q I2 rx ry q (hs _ _))
def aGf (K:Rc):R2:=λx y H Q=>∃ p xs i v,x=.ref p/\y=.int i/\SqL K H p xs/\atI xs i=some v/\Q v H
def aGg (K:Rc):R2:=λx y H Q=>∃ p xs i v,x=.ref p/\y=.int i/\SqT K H p xs/\atI xs i=some v/\Q v H
def aG7:R2:=λx y H Q=>∃ z i c,x=.str z/\y=.int i/\z.length<=sizeLine/\atI z.cps.toList i=some c/\Q (.str ⟨#[c]⟩) H
theorem cG:IxR X (aGf X.K):=by
 intro value slice pins s σ H x y v u Q I rx ry h hs
 obtain ⟨p,xs,i,z,rfl,rfl,hq,he,q⟩:=h
 cases rx
 obtain ⟨t,rfl⟩:=ry
 obtain ⟨its,r,pl,hz⟩:=I.list hq
 obtain ⟨j,h1,h2,h3,h4,h5⟩:=uV he
 obtain ⟨w,ew,rw'⟩:=r.get h2
 have hl:=r.length
 have hn:=oS
 have fin:EP X pins σ Q w s:=⟨z,H,I,rw',q⟩
 by_cases h0:0<=i
 ·have hj:i.toNat=j:=by
   rw [Rap h0 h5] at h1
   exact Option.some.inj h1
  exact item_listR pl.isList h0 (by omega) (by rw [hj]; simpa using ew) fin hs
 ·have hj:(i+(its.toArray.size:Int)).toNat=j:=by
   rw [Rah (by omega) h4] at h1
   rw [Ql,<- hl]
   exact Option.some.inj h1
  exact Uv (x:=w) pl.isList.typeIs slot_list_getitem.lookup
   (wpAny_getItem_list_neg (Q:=λr s'=>r=w/\EP X pins σ Q r s') pl.isList (by omega) (by rw [Ql] <;> omega) (by omega) (by rw [hj]; simpa using ew) ⟨rfl,fin⟩) hs
theorem bY:IxR X (aGg X.K):=by
 intro value slice pins s σ H x y v u Q I rx ry h hs
 obtain ⟨p,xs,i,z,rfl,rfl,hq,he,q⟩:=h
 cases rx
 obtain ⟨t,rfl⟩:=ry
 obtain ⟨its,r,pl,hz⟩:=I.tuple hq
 obtain ⟨j,h1,h2,h3,h4,h5⟩:=uV he
 obtain ⟨w,ew,rw'⟩:=r.get h2
 have hl:=r.length
 have hn:=oS
 have fin:EP X pins σ Q w s:=⟨z,H,I,rw',q⟩
 exact Uv (x:=w) pl.typeIs slot_tuple_getitem.lookup
  (getItem_tuple (j:=j) (Q:=λr s'=>r=w/\EP X pins σ Q r s') pl (by omega) (by omega) (by rw [Ql,<- hl]; exact h1) (by simpa using ew) ⟨rfl,fin⟩) hs
theorem aGh:IxR X aG7:=by
 intro value slice pins s σ H x y v u Q I rx ry h hs
 obtain ⟨z,i,c,rfl,rfl,hz,he,q⟩:=h
 obtain ⟨t,rfl⟩:=rx
 obtain ⟨t',rfl⟩:=ry
 obtain ⟨j,h1,h2,h3,h4,h5⟩:=uV he
 have hl:z.cps.toList.length=z.length:=by simp [Str.length]
 rw [hl] at h1 h4 h5
 have hn:=oS
 exact tail_any (typeIs_str s z t) slot_str_getitem.lookup (getItem_str (c:=c) (by
  have e1:decide (i < -(2^63:Int))=false:=decide_eq_false (by omega)
  have e2:decide (i≥2^63)=false:=decide_eq_false (by omega)
  rw [e1,e2,Bool.or_false]) (by rw [h1]; simpa using h2) ⟨.str ⟨#[c]⟩,H,I.tok _,⟨_,rfl⟩,q⟩) hs
def rIx (K:Rc):R2:=λx y H Q=>aGf K x y H Q∨aGg K x y H Q∨aG7 x y H Q
theorem aGi:IxR X (rIx X.K):=cG.or (bY.or aGh)
theorem zU (its:List Value) (n j:Nat) (u:Value):Obj.mapSeq (·.setIfInBounds j u) { cls:=.type "list",data:=.seq its.toArray n }={ cls:=.type "list",data:=.seq (its.set j u).toArray n }:=by
 simp [Obj.mapSeq]
theorem Inv.lst {σ:St} {p:Addr} (I:Inv X pins σ H s) (h:H p=some (.lst xs)) :
  ∃ (its:List Value) (n:Nat),bK xs its/\s.heap.get? p=some { cls:=.type "list",data:=.seq its.toArray n }/\xs.length<=sizeLine:=by
 obtain ⟨z,its,n,r,e⟩:=I.hok p _ h
 exact ⟨its,n,r,e,z⟩
theorem Inv.lstUpd {σ:St} {p:Addr} {its its':List Value} {n n':Nat} {f:Obj->Obj} (I:Inv X pins σ H s) (h:H p=some (.lst xs)) (ho:s.heap.get? p=some { cls:=.type "list",data:=.seq its.toArray n }) (hf:f { cls:=.type "list",data:=.seq its.toArray n }={ cls:=.type "list",data:=.seq its'.toArray n' }) (r:bK ys its') (hz:ys.length<=sizeLine) (t:Nat) :
  Inv X pins σ (upd H p (.lst ys)) { s with heap:=s.heap.update p f,toks:=t }:=by
 have e:(s.heap.update p f).get? p=some { cls:=.type "list",data:=.seq its'.toArray n' }:=by
  rw [Xc f ho (by rw [hf] <;> rfl),hf]
 refine I.write (x:=p) (e:=p) (by rw [h]; trivial) (.inl rfl) (λb u hb q=>(Jm _ _ (Ne.symm hb)).trans q) ⟨_,e⟩ ?_
 exact ⟨hz,its',n',r,e⟩
def aG8:V->V->V->Hp->(Hp->Prop)->Prop:=λo i v H Q=>∃ p xs k j,o=.ref p/\i=.int k/\H p=some (.lst xs)/\ixN xs.length k=some j/\Q (upd H p (.lst (xs.set j v)))
theorem lB:aGY X aG8:=by
 intro pins s σ H o i v ov iv u Q I ro ri rv h
 obtain ⟨p,xs,k,j,rfl,rfl,hp,hj,q⟩:=h
 cases ro
 obtain ⟨t,rfl⟩:=ri
 obtain ⟨its,n,r,ho,hz⟩:=I.lst hp
 obtain ⟨h1,h2,h3,h4⟩:=aAX hj
 have hl:=r.length
 have hn:=oS
 have I':Inv X pins σ (upd H p (.lst (xs.set j v))) { s with heap:=s.heap.update p (Obj.mapSeq (·.setIfInBounds j u)) } :=
  I.lstUpd hp ho (zU its n j u) (r.set rv j) (by rw [Xr]; exact hz) s.toks
 by_cases h0:0<=k
 ·have hk:k.toNat=j:=by
   rw [Rap h0 h4] at h1
   exact Option.some.inj h1
  exact PySem.W.ki_setAt ho h0 (by omega) (by rw [Ql,<- hl]; exact h4) (by rw [hk]; exact ⟨_,I',q⟩)
 ·have hk:(k+(its.toArray.size:Int)).toNat=j:=by
   rw [Rah (by omega) h3] at h1
   rw [Ql,<- hl]
   exact Option.some.inj h1
  exact PySem.W.ki_setBack ho (by omega) (by rw [Ql,<- hl]; exact h3) (by omega) (by rw [hk]; exact ⟨_,I',q⟩)
theorem uW (lo hi:Option Int) (n:Nat):(sliceBounds lo hi none n).1=((HT.sIx n 0 lo:Nat):Int)/\(sliceBounds lo hi none n).2.1=((HT.sIx n n hi:Nat):Int)/\(sliceBounds lo hi none n).2.2=1:=by
 refine ⟨?_,?_,rfl⟩
 ·cases lo with
  | none=>simp [sliceBounds,HT.sIx]
  | some i =>
   simp only [sliceBounds,HT.sIx,Qax,show (1:Int) > 0 by decide,if_true]
   by_cases h:i < 0
   ·simp only [h,if_true] <;> omega
   ·simp only [h,if_false] <;> omega
 ·cases hi with
  | none=>simp [sliceBounds,HT.sIx]
  | some i =>
   simp only [sliceBounds,HT.sIx,Qax,show (1:Int) > 0 by decide,if_true]
   by_cases h:i < 0
   ·simp only [h,if_true] <;> omega
   ·simp only [h,if_false] <;> omega
theorem sR (its:List Value) (lo hi:Option Int):slicePick its.toArray lo hi none=((its.drop (HT.sIx its.length 0 lo)).take (HT.sIx its.length its.length hi - HT.sIx its.length 0 lo)).toArray:=by
 obtain ⟨h1,h2,h3⟩:=uW lo hi its.toArray.size
 unfold slicePick
 rw [h1,h2,h3]
 simp only [sliceRange_one,pick_run,Ql] <;> rfl
def aG9 (K:Rc):V->Option Int->Option Int->Hp->VK->Prop:=λx lo hi H Q=>∃ a xs,x=.ref a/\SqL K H a xs/\∀ p,H p=none->Q (.ref p) (upd H p (.lst (mV xs lo hi)))
theorem aEG:SlR X (aG9 X.K):=by
 intro pins s σ H x v vl vu lo hi sl Q I rx hs pl pu h
 obtain ⟨a,xs,rfl,hx,q⟩:=h
 cases rx
 obtain ⟨its,r,ht,hz⟩:=I.list hx
 have hlen:=r.length
 refine ⟨"list",_,slot_list_getitem.lookup,ht.isList.typeIs,?_⟩
 refine Rac ht.isList hs pl pu .none (by simp) ?_ (by rw [Ql] <;> omega)
 rw [sR,<- hlen]
 refine ⟨.ref s.heap.objs.size,_,I.laid (t':=s.toks) (o:=.lst (mV xs lo hi)) (λb ob q=>Qa _ q) (Qh _) ?_,rfl,q _ (I.hok.fresh (Qh _))⟩
 exact ⟨Je (pV xs lo hi) hz,_,0,(r.drop (HT.sIx xs.length 0 lo)).take (HT.sIx xs.length xs.length hi - HT.sIx xs.length 0 lo),Qg _ rfl⟩
def nG:V->Bool
 | .non=>true
 | .bl _=>true
 | .int _=>true
 | .str _=>true
 | _=>false
def eqV:V->V->Bool
 | .non,.non=>true
 | .bl a,.bl b=>a==b
 | .bl a,.int b=>(if a then 1 else 0)==b
 | .int a,.bl b=>a==(if b then 1 else 0)
 | .int a,.int b=>a==b
 | .str a,.str b=>a==b
 | _,_=>false
theorem aGj {v:Value} (ry:bQ y u) (rx:bQ x v) (fy:nG y=true) (fx:nG x=true):SeqAt.EqAt A s u v (eqV y x):=by
 cases y with
 | non =>
  cases ry
  cases x with
  | non=>cases rx; exact SeqAt.EqAt.same _
  | bl b=>cases rx; exact SeqAt.EqAt.none_bool b
  | int b=>obtain ⟨t,rfl⟩:=rx; exact SeqAt.EqAt.none_int b t
  | str b=>obtain ⟨t,rfl⟩:=rx; exact SeqAt.EqAt.none_str b t
  | _=>exact absurd (show false=true from fx) Qr
 | bl a =>
  cases ry
  cases x with
  | non=>cases rx; exact SeqAt.EqAt.bool_none a
  | bl b=>cases rx; exact SeqAt.EqAt.bool_bool a b
  | int b=>obtain ⟨t,rfl⟩:=rx; exact SeqAt.EqAt.bool_int a b t
  | str b=>obtain ⟨t,rfl⟩:=rx; exact SeqAt.EqAt.bool_str a b t
  | _=>exact absurd (show false=true from fx) Qr
 | int a =>
  obtain ⟨t',rfl⟩:=ry
  cases x with
  | non=>cases rx; exact SeqAt.EqAt.int_none a t'
  | bl b=>cases rx; exact SeqAt.EqAt.int_bool a t' b
  | int b=>obtain ⟨t,rfl⟩:=rx; exact SeqAt.EqAt.int_int a t' b t
  | str b=>obtain ⟨t,rfl⟩:=rx; exact SeqAt.EqAt.int_str a t' b t
  | _=>exact absurd (show false=true from fx) Qr
 | str a =>
  obtain ⟨t',rfl⟩:=ry
  cases x with
  | non=>cases rx; exact SeqAt.EqAt.str_none a t'
  | bl b=>cases rx; exact SeqAt.EqAt.str_bool a t' b
  | int b=>obtain ⟨t,rfl⟩:=rx; exact SeqAt.EqAt.str_int a t' b t
  | str b=>obtain ⟨t,rfl⟩:=rx; exact SeqAt.EqAt.str_str a t' b t
  | _=>exact absurd (show false=true from fx) Qr
 | _=>exact absurd (show false=true from fy) Qr
def eqU (x:V) (u:Value):Bool:=match u with
 | .none=>eqV .non x
 | .bool b=>eqV (.bl b) x
 | .int i _=>eqV (.int i) x
 | .str z _=>eqV (.str z) x
 | _=>false
theorem aCU (r:bQ y u) (f:nG y=true):eqU x u=eqV y x:=by
 cases y with
 | non=>cases r; rfl
 | bl b=>cases r; rfl
 | int i=>obtain ⟨t,rfl⟩:=r; rfl
 | str z=>obtain ⟨t,rfl⟩:=r; rfl
 | _=>exact absurd (show false=true from f) Qr
theorem aAY:∀ {xs:List V} {us:List Value},bK xs us->xs.all nG=true->us.any (eqU x)=xs.any λy=>eqV y x
 := by
 intro xs us h
 induction h with
 | nil=>intro _; rfl
 | cons r t ih =>
  intro f
  rw [List.all_cons,Jn] at f
  rw [Zq,Zq,aCU r f.1,ih f.2]
theorem qW {v:Value} (rx:bQ x v) (fx:nG x=true):∀ {xs:List V} {us:List Value},bK xs us->xs.all nG=true->∀ u∈us,SeqAt.EqAt A s u v (eqU x u)
 | _,_,.nil,_=>λu hu=>by cases hu
 | y::xs,u::us,.cons r t,f=>λu' hu=>by
  rw [List.all_cons,Jn] at f
  rcases Qn.mp hu with rfl | hu
  ·rw [aCU r f.1]; exact aGj r rx f.1 fx
  ·exact qW rx fx t f.2 u' hu
def inV (x:V) (xs:List V):Bool:=xs.any λy=>eqV y x
def rIn (K:Rc) (neg:Bool):R2:=λx y H Q=>∃ p xs,y=.ref p/\(SqL K H p xs∨SqT K H p xs)/\nG x=true/\xs.all nG=true/\Q (.bl (if neg then !inV x xs else inV x xs)) H
theorem oT:OpR X (compareOp .In) (rIn X.K false):=by
 intro pins s σ H x y v u Q I rx ry h
 obtain ⟨p,xs,rfl,hq,fx,fs,q⟩:=h
 cases ry
 rcases hq with hq | hq
 ·obtain ⟨its,r,pl,hz⟩:=I.list hq
  refine SeqAt.in_listAt (eqU x) pl.isList (λw hw=>qW rx fx r fs w (by simpa using hw)) ⟨.bl _,H,I,rfl,?_⟩
  rw [show its.toArray.any (eqU x)=its.any (eqU x) by simp,aAY r fs]
  exact q
 ·obtain ⟨its,r,pl,hz⟩:=I.tuple hq
  refine SeqAt.in_tupleAt (eqU x) pl (λw hw=>qW rx fx r fs w (by simpa using hw)) ⟨.bl _,H,I,rfl,?_⟩
  rw [show its.toArray.any (eqU x)=its.any (eqU x) by simp,aAY r fs]
  exact q
theorem aY:dM X (.builtin "len") (λxs H Q=>∃ p ys,xs = [.ref p]/\(SqL X.K H p ys∨SqT X.K H p ys)/\Q (.int ys.length) H):=by
 intro pins s σ H xs us Q I r h
 obtain ⟨p,ys,rfl,hq,q⟩:=h
 obtain ⟨u,rfl,rx⟩:=fX r
 cases rx
 have hn:=oS
 rcases hq with hq | hq
 ·obtain ⟨its,r',pl,hz⟩:=I.list hq
  have hlen:=r'.length
  exact Calls.call_len_list pl.isList (by simp only [Ql] <;> omega) ⟨.int ys.length,H,I.tok _,⟨s.toks+1,by rw [Ql,hlen]⟩,q⟩
 ·obtain ⟨its,r',pl,hz⟩:=I.tuple hq
  have hlen:=r'.length
  exact len_tuple pl (by simp only [Ql] <;> omega) ⟨.int ys.length,H,I.tok _,⟨s.toks+1,by rw [Ql,hlen]⟩,q⟩
theorem dM.or {f:Value} {r r':List V->Hp->VK->Prop} (h:dM X f r) (h':dM X f r'):dM X f (λxs H Q=>r xs H Q∨r' xs H Q):=by
 intro pins s σ H xs us Q I rs q
 rcases q with q | q
 ·exact h pins s σ H xs us Q I rs q
 ·exact h' pins s σ H xs us Q I rs q
theorem uX:dM X (.type "list") (λxs H Q=>∃ p ys,xs = [.ref p]/\(SqL X.K H p ys∨SqT X.K H p ys)/\∀ l,H l=none->Q (.ref l) (upd H l (.lst ys))):=by
 intro pins s σ H xs us Q I r h
 obtain ⟨p,ys,rfl,hq,q⟩:=h
 obtain ⟨u,rfl,rx⟩:=fX r
 cases rx
 have fin:∀ (its:List Value),bK ys its->ys.length<=sizeLine->∀ (h':Heap) (c':Nat),(∀ b o',s.heap.get? b=some o'->h'.get? b=some o') ->
   h'.get? s.heap.objs.size=some { cls:=.type "list",dict:=none,data:=.seq its.toArray c',slots:=#[] }->EP X pins σ Q (.ref s.heap.objs.size) { s with heap:=h' }:=λits r' hz h' c' kp e =>
  ⟨.ref s.heap.objs.size,_,I.laid (t':=s.toks) kp (Qh _) (show bN X.prog X.w _ h' _ (.lst ys) from ⟨hz,its,c',r',e⟩),rfl,q _ (I.hok.fresh (Qh _))⟩
 rcases hq with hq | hq
 ·obtain ⟨its,r',pl,hz⟩:=I.list hq
  have hlen:=r'.length
  obtain ⟨o,ho,hc,n,hd⟩:=pl.isList
  exact call_list_seq p (.inl rfl) ho hc hd (λh' c' kp e=>fin its r' hz h' c' kp e) (by simp only [Ql] <;> omega)
 ·obtain ⟨its,r',pl,hz⟩:=I.tuple hq
  have hlen:=r'.length
  obtain ⟨o,ho,hc,n,hd⟩:=pl
  exact call_list_seq p (.inr rfl) ho hc hd (λh' c' kp e=>fin its r' hz h' c' kp e) (by simp only [Ql] <;> omega)
theorem bV:dM X (.type "tuple") (λxs H Q=>∃ p ys,xs = [.ref p]/\((SqL X.K H p ys/\∀ l,H l=none->Q (.ref l) (upd H l (.tup ys)))∨(SqT X.K H p ys/\Q (.ref p) H))):=by
 intro pins s σ H xs us Q I r h
 obtain ⟨p,ys,rfl,h⟩:=h
 obtain ⟨u,rfl,rx⟩:=fX r
 cases rx
 rcases h with ⟨hq,q⟩ | ⟨hq,q⟩
 ·obtain ⟨its,r',pl,hz⟩:=I.list hq
  have hlen:=r'.length
  refine call_tuple_list pl.isList (λh' kp=>?_) (by simp only [Ql] <;> omega)
  have I1:Inv X pins σ H { s with heap:=h' }:=I.kept (t':=s.toks) kp
  have I2:Inv X pins σ (upd H h'.objs.size (.tup ys)) { s with heap:=h'.push { cls:=.type "tuple",data:=.seq its.toArray } } :=
   I1.laid (t':=s.toks) (λb o e=>Qa _ e) (Qh _) (show bN X.prog X.w _ _ _ (.tup ys) from ⟨hz,its,0,r',Qg _ rfl⟩)
  exact ⟨.ref h'.objs.size,_,I2,rfl,q _ (I1.hok.fresh (Qh _))⟩
 ·obtain ⟨its,r',pl,hz⟩:=I.tuple hq
  exact call_tuple_same pl ⟨.ref p,H,I,rfl,q⟩
def tyV (K:Rc) (T:String) (x:V) (H:Hp):Prop:=match x with
 | .str _=>T = "str"
 | .int _=>T = "int"
 | .ref p => (T = "list" /\ ∃ xs, SqL K H p xs) ∨ (T = "tuple" /\ ∃ xs, SqT K H p xs) ∨
     (T = "dict" /\ ((∃ kvs,H p=some (.dK kvs))∨∃ kvs,H p=some (.dT kvs)))∨(T = "set" /\ ∃ S n,H p=some (.set S n))
 | _=>False
theorem aCV {σ:St} {v:Value} (I:Inv X pins σ H s) (r:bQ x v) (ty:tyV X.K T x H) :
  s.TypeIs v T/\∀ a,v=.ref a->∃ ob,s.heap.get? a=some ob/\ob.dict=none:=by
 cases x with
 | str z =>
  obtain ⟨t,rfl⟩:=r
  cases (show T = "str" from ty)
  exact ⟨typeIs_str s z t,λ_ e=>nomatch e⟩
 | int i =>
  obtain ⟨t,rfl⟩:=r
  cases (show T = "int" from ty)
  exact ⟨Ip s i t,λ_ e=>nomatch e⟩
 | ref p =>
  cases r
  rcases ty with ⟨rfl,xs,hq⟩ | ⟨rfl,xs,hq⟩ | ⟨rfl,hk⟩ | ⟨rfl,S,n,hk⟩
  ·obtain ⟨its,_,pl,_⟩:=I.list hq
   refine ⟨pl.isList.typeIs,λa e=>?_⟩
   cases e
   obtain ⟨o,n,e,c,hd,_⟩:=pl
   exact ⟨o,e,hd⟩
  ·obtain ⟨o,e,hc,hd⟩:∃ o,s.heap.get? p=some o/\o.cls=.type "tuple" /\ o.dict=none:=by
    rcases hq with hq | ⟨o,_,_,hk,hc,hd,_⟩
    ·obtain ⟨_,its,n,_,e⟩:=hq.ok I.hok
     exact ⟨_,e,rfl,rfl⟩
    ·exact ⟨o,I.kIn p o hk,hc,hd⟩
   refine ⟨⟨o,e,hc⟩,λa e2=>?_⟩
   cases e2
   exact ⟨o,e,hd⟩
  ·have z:∃ o,s.heap.get? p=some o/\o.ExactDict:=by
    rcases hk with ⟨kvs,hk⟩ | ⟨kvs,hk⟩
    ·obtain ⟨_,_,_,_,o,_,_,e,ex,_⟩:=I.hok p _ hk
     exact ⟨o,e,ex⟩
    ·obtain ⟨_,_,_,_,o,_,_,e,ex,_⟩:=I.hok p _ hk
     exact ⟨o,e,ex⟩
   obtain ⟨o,e,ex⟩:=z
   refine ⟨⟨o,e,ex.1⟩,λa e2=>?_⟩
   cases e2
   exact ⟨o,e,ex.2.1⟩
  ·obtain ⟨o,_,_,_,e,ex,_⟩:=I.hok p _ hk
   refine ⟨⟨o,e,ex.1⟩,λa e2=>?_⟩
   cases e2
   exact ⟨o,e,ex.2.1⟩
 | _=>exact False.elim ty
def tBM (K:Rc) (T:String) (r:V->List V->Hp->VK->Prop) (to:TE) (t:TA):TE:=λσ H Q=>to σ H λx H1=>tyV K T x H1/\t σ H1 λxs H2=>r x xs H2 Q
variable {o:Expr} {t:TA} {id:String} {r:V->List V->Hp->VK->Prop}
theorem nH (pa:PlainAttrs T) (slot:Slot T name id) (hty:typeOf (.builtin id)=pure (.type "method_descriptor")) (hm:MtR X id r) (ho:PE X o to) (ha:PA X (e::es) t)
  (hbase:attributeBase o name X.env (eval o X.env)=eval o X.env:=by rfl)
  (hfew:((backTo cpos (starEach (e::es) X.env)).all (λx=>!x.1) && (backToKw cpos (keywordEach [] X.env)).all (λx=>x.1.isSome)
   && decide ((e::es).length+([]:List Keyword).length+(if ([]:List Keyword).isEmpty then 0 else 1) < 30))=true:=by rfl)
  (hline:(apos.endLine==cpos.line)=true:=by rfl) (hs:starEach (e::es) X.env=(false,eval e X.env)::starEach es X.env:=by rfl) (hplain:(backTo cpos (starEach es X.env)).any (·.1)=false:=by rfl) :
  PE X (.Call (.Attribute o name apos) (e::es) [] cpos) (tBM X.K T r to t):=by
 intro pins s σ H Q I h
 refine wpAny_Call_method_late hbase hfew hline rfl (thn (ho pins s σ H _ I h) λv s1 hx9=>?_)
 obtain ⟨x,H1,I1,r1,ty,q1⟩:=hx9
 obtain ⟨h1,h2⟩:=aCV I1 r1 ty
 refine ⟨T,id,pa,slot,hty,h1,h2,?_⟩
 have hA:=ha cpos pins s1 σ H1 _ I1 q1
 rw [hs] at hA ⊢
 refine Calls.callWith_builtin (by show (false || (backTo cpos (starEach es X.env)).any (·.1))=false; rw [hplain] <;> rfl) (Calls.evalArgs_plain ?_)
 refine thn hA λus s2 hx9=>?_
 obtain ⟨vs,H2,I2,r2,q2⟩:=hx9
 exact hm pins s2 σ H2 x vs v us Q I2 r1 r2 q2
/- xs.append(e),list.index on a module's tuple .. are MtR facts of 06m -/
end
def MtM (X:Cx) (id:String) (r:V->List V->Hp->VK->Prop):Prop :=
 ∀ (pins:List (Addr×Obj)) (s:Shared) (σ:St) (H:Hp) (x:V) (xs:List V) (v:Value) (us:List Value) (Q:VK),Inv X pins σ H s->bQ x v->bK xs us->r x xs H Q ->
  wpAny (model X.prog X.w) X.A (call (.builtin id) (v::us)) (EP X pins σ Q) X.xe s
theorem bK.one (r:bK [x] us):∃ u,us = [u]/\bQ x u:=fX r
theorem bK.two (r:bK [x,y] us):∃ u v,us = [u,v]/\bQ x u/\bQ y v:=pU r
theorem bK.zero:∀ {us:List Value},bK [] us->us = []
 | _,.nil=>rfl
theorem bK.dropLast (h:bK xs us):bK xs.dropLast us.dropLast:=by
 induction h with
 | nil=>exact .nil
 | cons r t ih =>
  cases t with
  | nil=>exact .nil
  | cons q t'=>exact .cons r ih
theorem bK.eraseIdx:∀ {xs:List V} {us:List Value} (i:Nat),bK xs us->bK (xs.eraseIdx i) (us.eraseIdx i)
 | _,_,_,.nil=>.nil
 | _,_,0,.cons _ t=>t
 | _,_,i+1,.cons r t=>.cons r (bK.eraseIdx i t)
theorem bK.reverse (h:bK xs us):bK xs.reverse us.reverse:=by
 induction h with
 | nil=>exact .nil
 | cons r t ih=>rw [List.reverse_cons,List.reverse_cons]; exact bK.append ih (.cons r .nil)
theorem bK.rep (h:bK xs us):∀ k:Nat,bK (List.replicate k xs).flatten (List.replicate k us).flatten
 | 0=>.nil
 | k+1=>by
  rw [Zr,Zr,Yl,Yl]
  exact bK.append h (bK.rep h k)
theorem tT:∀ (l:List α) (i:Nat),(l.eraseIdx i).length<=l.length
 | [],_=>Qh _
 | _::_,0=>Qad _
 | _::r,i+1=>Yb (tT r i)
theorem lV (its:List Value):∀ (k:Nat) (acc:List Value),
  List.foldl (λx1 x2=>x1++x2) acc.toArray (List.replicate k its.toArray)=(acc++(List.replicate k its).flatten).toArray
 | 0,acc=>by simp
 | k+1,acc=>by
  have e:acc.toArray++its.toArray=(acc++its).toArray:=by simp
  have e2:(acc++its)++(List.replicate k its).flatten=acc++(List.replicate (k+1) its).flatten:=by
   rw [Zr,Yl,Ym]
  rw [<- e2,<- lV its k (acc++its),<- e,Zr,List.foldl_cons]
section
variable {σ:St} {l:Addr}
theorem Inv.lset {its its':List Value} {n:Nat} {f:Array Value->Array Value} (I:Inv X pins σ H s) (hH:H l=some (.lst xs)) (e:s.heap.get? l=some { cls:=.type "list",data:=.seq its.toArray n }) (hf:f its.toArray=its'.toArray) (hv:bK ys its') (hz:ys.length<=sizeLine) :
  Inv X pins σ (upd H l (.lst ys)) { s with heap:=s.heap.update l (Obj.mapSeq f),toks:=t' }:=by
 have q:=PySem.IsL.update e f
 rw [hf] at q
 refine I.write (x:=l) (e:=l) (by rw [hH]; exact trivial) (.inl rfl) (λb' u hb hu=>(Jm s.heap (Obj.mapSeq f) (Ne.symm hb)).trans hu) ⟨_,q⟩ ?_
 exact ⟨hz,its',_,hv,q⟩
theorem Inv.lnew {its:List Value} (I:Inv X pins σ H s) (hv:bK ys its) (hz:ys.length<=sizeLine) :
  Inv X pins σ (upd H s.heap.objs.size (.lst ys)) { s with heap:=s.heap.push { cls:=.type "list",data:=.seq its.toArray },toks:=t' } :=
 I.laid (λ_ _ q=>Qa _ q) (Qh _) ⟨hz,its,0,hv,Qg _ rfl⟩
theorem Inv.fresh (I:Inv X pins σ H s):H s.heap.objs.size=none:=I.hok.fresh (Qh _)
theorem Inv.lstM (I:Inv X pins σ H s) (hH:H l=some (.lst xs)):xs.length<=sizeLine/\∃ (its:List Value) (n:Nat),bK xs its/\xs.length=its.length/\s.heap.get? l=some { cls:=.type "list",data:=.seq its.toArray n }:=by
 obtain ⟨z,its,n,r,e⟩:=I.hok l _ hH
 exact ⟨z,its,n,r,r.length,e⟩
theorem aCW {n:Nat} (h:n<=sizeLine):Builtin.List.listTooLong n=false:=by
 unfold Builtin.List.listTooLong
 exact decide_eq_false (by omega)
end
def aEH:V->List V->Hp->VK->Prop:=λx vs H Q=>∃ l xs y,x=.ref l/\vs = [y]/\H l=some (.lst xs)/\xs.length < sizeLine/\Q .non (upd H l (.lst (xs++[y])))
theorem iO:MtM X "list.append" aEH:=by
 intro pins s σ H x vs v us Q I rx rv h
 obtain ⟨l,xs,y,rfl,rfl,hH,hz,q⟩:=h
 cases rx
 obtain ⟨u,rfl,ru⟩:=rv.one
 obtain ⟨z,its,n,r,hl,e⟩:=I.lstM hH
 refine Va F.slot_list_append ⟨_,e,rfl⟩ F.entry_list_append (F.args_list_append_2 _ _) (PySem.list_append l its.toArray n u (by rw [Ql]; omega)) ⟨e,?_⟩
 refine ⟨.non,_,I.lset (its':=its++[u]) hH e (by simp) (r.append (.cons ru .nil)) ?_,rfl,q⟩
 rw [Qq,List.length_singleton]
 omega
def aGk:V->List V->Hp->VK->Prop:=λx vs H Q=>∃ l xs i k y,x=.ref l/\vs = [.int i]/\H l=some (.lst xs)/\-(2^63)<=i/\i < 2^63/\seqIndex? i xs.length=some k/\xs[k]?=some y/\Q y (upd H l (.lst (xs.eraseIdx k)))
theorem aCX:MtM X "list.pop" aGk:=by
 intro pins s σ H x vs v us Q I rx rv h
 obtain ⟨l,xs,i,k,y,rfl,rfl,hH,h1,h2,hk,hy,q⟩:=h
 cases rx
 obtain ⟨u,rfl,ru⟩:=rv.one
 obtain ⟨t,rfl⟩:=ru
 obtain ⟨z,its,n,r,hl,e⟩:=I.lstM hH
 obtain ⟨w,hw,rw'⟩:=r.get hy
 refine Va F.slot_list_pop ⟨_,e,rfl⟩ F.entry_list_pop (F.args_list_pop_2 _ _)
  (MeetsSeq.list_pop_at l its.toArray n i t k w (fitsIndex_both h1 h2) (by rw [Ql,<- hl]; exact hk) (by rw [<- Array.getElem?_toList]; exact hw) (by rw [Ql]; omega)) ⟨e,?_⟩
 refine ⟨y,_,I.lset (its':=its.eraseIdx k) hH e ?_ (r.eraseIdx k) ?_,rw',q⟩
 ·show its.toArray.eraseIdxIfInBounds k=(its.eraseIdx k).toArray
  rw [List.eraseIdxIfInBounds_toArray]
 ·have:=tT xs k
  omega
def aHR:R2:=λx y H Q=>∃ l b xs zs,x=.ref l/\y=.ref b/\H l=some (.lst xs)/\H b=some (.lst zs)/\xs.length+zs.length<=sizeLine/\∀ p,H p=none->Q (.ref p) (upd H p (.lst (xs++zs)))
theorem aCY:OpR X (binaryOp .Add) aHR:=by
 intro pins s σ H x y v u Q I rx ry h
 obtain ⟨l,b,xs,zs,rfl,rfl,hH,hB,hz,q⟩:=h
 cases rx
 cases ry
 obtain ⟨z,its,n,r,hl,e⟩:=I.lstM hH
 obtain ⟨z2,its2,n2,r2,hl2,e2⟩:=I.lstM hB
 refine PySem.P.add_list e e2 ?_ (by rw [Ql,Ql]; omega)
 have ea:its.toArray++its2.toArray=(its++its2).toArray:=by simp
 rw [ea]
 exact ⟨.ref _,_,I.lnew (t':=s.toks) (r.append r2) (by rw [Qq]; omega),rfl,q _ I.fresh⟩
def aHS:R2:=λx y H Q=>∃ l k xs,x=.ref l/\y=.int k/\H l=some (.lst xs)/\-(2^63)<=k/\k < 2^63/\xs.length*k.toNat<=sizeLine /\
 ∀ p,H p=none->Q (.ref p) (upd H p (.lst (List.replicate k.toNat xs).flatten))
theorem uY (xs:List α) (k:Nat):(List.replicate k xs).flatten.length=k*xs.length:=by
 induction k with
 | zero=>simp
 | succ k ih=>rw [Zr,Yl,Qq,ih,Nat.succ_mul,Nat.add_comm]
theorem aGl:OpR X (binaryOp .Mult) aHS:=by
 intro pins s σ H x y v u Q I rx ry h
 obtain ⟨l,k,xs,rfl,rfl,hH,h1,h2,hz,q⟩:=h
 cases rx
 obtain ⟨t,rfl⟩:=ry
 obtain ⟨z,its,n,r,hl,e⟩:=I.lstM hH
 have hlen:its.toArray.size*k.toNat<=sizeLine:=by rw [Ql,<- hl]; exact hz
 have hcap:¬ its.toArray.size*k.toNat > (2^63 - 1) / 8:=by
  have:(sizeLine:Nat)<=(2^63 - 1) / 8:=by decide
  omega
 have hfit:¬ (!Builtin.List.listFitsIndex k)=true:=by
  rw [fitsIndex_both h1 h2]
  exact Qr
 have hlong:¬ Builtin.List.listTooLong (its.toArray.size*k.toNat)=true:=by
  rw [aCW hlen]
  exact Qr
 have hnew:List.foldl (λx1 x2=>x1++x2) #[] (List.replicate (if its.toArray.isEmpty=true then 0 else k.toNat) its.toArray)=(List.replicate k.toNat its).flatten.toArray:=by
  have f0:∀ m:Nat,List.foldl (λx1 x2=>x1++x2) #[] (List.replicate m its.toArray)=(List.replicate m its).flatten.toArray:=λm=>by
   have:=lV its m []
   rw [Zw] at this
   exact this
  rw [f0]
  cases its with
  | nil=>simp
  | cons a r'=>rw [if_neg (by simp)]
 refine Raa (T := "list") (U := "int") (by decide) ⟨_,e,rfl⟩ (λs'=>Ip s' k t) noFill_list_mul F.fills_int_mul F.slot_int_rmul repeat_list F.slot_int_index.lookup
  (Va F.slot_int_rmul (Ip s k t) F.entry_int_rmul (F.args_int_rmul_2 _ _) (int___rmul___int_list k t l its.toArray n)
   ⟨e,rfl,⟨_,e,rfl⟩,Va F.slot_list_mul ⟨_,e,rfl⟩ F.entry_list_mul (F.args_list_mul_2 _ _) (AutoListH.list___mul___list_int_3 l its.toArray n k t hfit hcap hlong) ⟨e,?_⟩⟩)
 rw [hnew]
 exact ⟨.ref _,_,I.lnew (t':=s.toks) (r.rep k.toNat) (by rw [uY,Nat.mul_comm]; exact hz),rfl,q _ I.fresh⟩
end L2
namespace Att
open PySem PySem.W PySem.Calls PyProof.Rows
theorem qF {P:Params}:∀ (ns:List Int) (vs:List Value),WellAll P h vs (ns.map WData.int)->IntsAre vs ns:=by
 intro ns
 induction ns with
 | nil =>
  intro vs w
  rw [Yp] at w
  cases w
  exact .nil
 | cons n ns ih =>
  intro vs w
  rw [Qy] at w
  cases w with
  | cons a b =>
   cases a
   exact .cons _ _ (ih _ b)
theorem aBT {l:OpenLaw} {n:Nat} (hn:l.most=some n) {P:Params} {args:List WData} {vals:List Value} (hpre:l.row.toRowW.claim.pre args=true) (hwl:WellAll P h vals args) :
  ∃ a vs ns,vals = [Value.ref a]/\args = [WData.list (ns.map WData.int)]/\h.get? a=some { cls:=.type "list",data:=.seq vs.toArray }/\IntsAre vs ns/\ns.length<=n:=by
 have hsh:WShape.hasAll [] args [.list .int]=true:=(pre_splitW hpre).1
 have hc:l.pre.holds [] { args:=args }=true:=(pre_splitW hpre).2
 obtain ⟨d,r,rfl,h1,h2⟩:=hasAllW_cons hsh
 obtain rfl:=hasAllW_nil h2
 obtain ⟨xs,rfl,h3⟩:=hasW_list h1
 obtain ⟨ns,rfl⟩:=items_int h3
 have hlen:ns.length<=n:=by
  unfold OpenLaw.pre at hc
  have h4:(WTm.not (.lt (.lit (.int (n:Int))) (.len (.arg 0)))).holds [] { args:=[.list (ns.map .int)] }=true:=by
   have h4:=(holds_andW hc).1
   rw [hn] at h4
   exact h4
  have h5:=condW_of h4 (w_not (w_lt w_lit (w_len_list (w_arg rfl))))
  rw [Qb] at h5
  refine Nat.le_of_not_lt λq=>?_
  have q':(n:Int) < ((ns.length:Nat):Int):=by omega
  first
   | (rw [decide_eq_true q'] at h5; exact absurd h5 (by decide))
   | (simp at h5; omega)
 cases hwl with
 | cons w1 w2 =>
  cases w2
  cases w1 with
  | list ho hall=>exact ⟨_,_,ns,rfl,rfl,ho,qF ns _ hall,hlen⟩
theorem aBU (l:OpenLaw) (args:List WData):l.row.toRowW.claim.post args (.bool true) args=true :=
 postW_of (r:=l.row.toRowW) (X:=(true==true))
  (show WShape.has [] (.bool true) .bool=true by first | rfl | decide | simp [WShape.has,WShape.arms,WShape.armsAll])
  (show (WTm.eq .res (.lit (.bool true))).value [] { args:=args,res:=some (.bool true),after:=args }=some (.bool (true==true)) from w_eq_bool (w_res rfl) w_lit) rfl
theorem attach_call {l:OpenLaw} {n:Nat} {d:DefRec} (hn:l.most=some n) (hdf:d.params.defaults = []) (call:∀ (w:World) (s0x s1x:Shared) (mg mb:Str->Option Value) (fa:Addr) (o:Obj) (pm cd doc:Value) (a:Addr) (vs:List Value) (ns:List Int),
   Ground q loose [] XP w s0x mg mb s1x.heap->YP w s1x.heap ->
   s1x.heap.get? fa=some o->o.data=.func (docDef d.name d.params d.body d.scope pm cd doc)->s1x.heap.CodeRec cd d.name->mg d.name=some (.ref fa) ->
   s1x.heap.get? a=some { cls:=.type "list",data:=.seq vs.toArray }->IntsAre vs ns->ns.length<=n->s1x.gens = #[] ->
   codeAny (model l.prog w) callerA (.call (.ref fa) ⟨[.ref a],[]⟩) (λr s'=>r=.ok (.ret (.bool true))/\OldK s1x.heap s'.heap/\s'.os=s1x.os/\AllBare s'.gens) s1x) :
  WalkO q loose XP YP l.row.toRowW d [] (λf vs=>Rae f vs):=by
 intro w s0x s1x mg mb G Y fa o pm cd doc dV kV ho hd hcd hD hmg hg args vals as hpre hlay hrd hwl hlo
 obtain rfl:dV=.none:=Dflts.none hD hdf
 obtain rfl:kV=.none:=Dflts.noKw hD
 obtain ⟨a,vs,ns,rfl,rfl,hobj,hints,hlen⟩:=aBT hn hpre hwl
 refine enter_call (Uo (call w s0x s1x mg mb fa o pm cd doc a vs ns G Y ho (fd_plain hd) hcd hmg hobj hints hlen hg) λr s' hq=>?_)
 obtain ⟨rfl,h2,h3,h4⟩:=hq
 exact ⟨.inl ⟨.bool true,.bool true,[],rfl,λ_=>rfl,.bool true,aBU l _,λ_=>⟨List.Pairwise.nil,λ_ hm=>(nomatch hm)⟩⟩,h2,h3,h4⟩
section
variable {K:Frag}
end
end Att
namespace L2
open PySem PySem.Spec PyProof.Rows
theorem jP:∀ {vs:List Value} {ns:List Int},IntsAre vs ns->bK (ns.map V.int) vs
 := by
 intro vs ns h
 induction h with
 | nil=>exact .nil
 | cons n t h ih=>exact .cons ⟨t,rfl⟩ ih
def jC (s:Stmt):Arguments:=match s with
 | .FunctionDef _ a _ _ _ _ _ _ _ _=>a
 | _=>{ posonlyargs:=[],args:=[],vararg:=none,kwonlyargs:=[],kw_defaults:=[],kwarg:=none,defaults:=[] }
def eK (s:Stmt):List Stmt:=match s with
 | .FunctionDef _ _ b _ _ _ _ _ _ _=>b
 | _=>[]
def aG (s:Stmt):Scope:=match s with
 | .FunctionDef _ _ _ _ _ _ sc _ _ _=>sc
 | _=>{ kind:=.function,names:=[],isGenerator:=false,isCoroutine:=false }
abbrev CX0:CXT:=λ_ _ _ _ _ _=>False
abbrev E0:XK:=λ_ _ _=>False
theorem aHa:zQ CX0 X E0:=λ_ _ _ _ _ _ _ h=>h.elim
structure Fun (K:Rc) (x qual:Str) (st:Stmt) (f:Addr) (fd:FuncData):Prop where
 ex:∃ (oc:Value) (od:Option Addr) (kV doc pm:Value) (an:Option Addr) (cdv ct:Value) (osl:Array (Option Value)),
  fd=Ti x qual (jC st) (eK st) (aG st) .none kV doc pm an cdv ct/\K.lookup f=some ⟨oc,od,.func fd,osl⟩/\Vd K cdv qual=true
 kp:Tn K (.ref f)=true
theorem Fun.ok {x:Str} {k:Nat} (F:Fun K x qual st f fd) (S:FnScope N ps (aG st)) (len:∀ vs H Q E,sp vs H Q E->vs.length=ps.length) (hbody:∀ (cdv:Value) (A:Around) (outer:List Env) (s:Shared) (H:Hp) (vs:List V) (Q:VK) (E:XK),Room k (A.deeper (envOfC qual (aG st) s.heap.objs.size f cdv))->sp vs H Q E ->
   ∃ t,PSs (zR CX0 P w K mg base N qual (aG st) f cdv A outer s H E).nox (eK st) t/\t { nx:=λ_ H'=>Q .non H',rt:=Q } (start N vs) H):FnOk P w K mg base CX0 (k+1) f fd ps sp:=by
 obtain ⟨oc,od,kV,doc,pm,an,cdv,ct,osl,rfl,lk,hcd⟩:=F.ex
 refine aFG lk hcd S len λA outer s H vs Q E hr hsp=>?_
 obtain ⟨t,h,q⟩:=hbody cdv A outer s H vs Q E hr hsp
 exact ⟨t,h.nox,q⟩
theorem Fun.binds {x:Str} (F:Fun K x qual st f fd) (h:∀ (kV doc pm:Value) (an:Option Addr) (cdv ct:Value) (us:List Value),us.length=ps.length->bindArgs (Ti x qual (jC st) (eK st) (aG st) .none kV doc pm an cdv ct) ⟨us,[]⟩=pure (ps.zip us)):tO K fd ps []:=by
 obtain ⟨oc,od,kV,doc,pm,an,cdv,ct,osl,rfl,lk,hcd⟩:=F.ex
 exact .all (h kV doc pm an cdv ct)
theorem aCZ {x:Str} {kV:Value} (l:K.lookup f=some ⟨oc,od,.func (Ti x qual (jC st) (eK st) (aG st) .none kV doc pm an cdv ct),osl⟩) (c:Vd K cdv qual=true) (k:Tn K (.ref f)=true):Fun K x qual st f (Ti x qual (jC st) (eK st) (aG st) .none kV doc pm an cdv ct):=⟨⟨oc,od,kV,doc,pm,an,cdv,ct,osl,rfl,l,c⟩,k⟩
theorem kU {k:Nat} (hr:Room k A):A.units+1 < cLine:=Yf (Nat.add_le_add_left (by decide:1<=64) _) hr.units
theorem pv (i:Nat) {x:Str} (hN:X.N[i]?=some x:=by rfl) (hv:Vis X.env.scope x:=by first | exact Or.inl rfl | exact Or.inr (Or.inl rfl) | exact Or.inr (Or.inr rfl)) (hd:(x==("__debug__" : Str))=false:=by decide) (hcd:(x==("__classdict__" : Str))=false:=by decide):PE X (.Name x pos) (aBO i):=aFZ hN hv hd hcd
theorem gX {A:Prop} (h:B):if false=true then A else B:=by
 rw [if_neg Qr]
 exact h
theorem fZ {A:Prop} (h:A):if true=true then A else B:=by
 rw [if_pos rfl]
 exact h
theorem cU {c A:Prop} [Decidable c] (h1:c->A) (h2:¬ c->B):if c then A else B:=by
 by_cases h:c
 ·rw [if_pos h]
  exact h1 h
 ·rw [if_neg h]
  exact h2 h
def aD (H H':Hp):Prop:=∀ b o,H b=some o->H' b=some o
theorem aD.refl (H:Hp):aD H H:=λ_ _ h=>h
theorem aD.trans (a:aD H H1) (b:aD H1 H2):aD H H2:=λc o h=>b c o (a c o h)
theorem aD.free (e:aD H H') {l:Addr} (h:H' l=Option.none):H l=Option.none:=by
 cases q:H l with
 | none=>rfl
 | some o =>
  rw [e l o q] at h
  cases h
theorem aD.seq (e:aD H H') (h:SqL K H a xs):SqL K H' a xs:=by
 rcases h with (h | ⟨o,h⟩) | h
 ·exact .inl (.inl (e _ _ h))
 ·exact .inl (.inr ⟨o,e _ _ h⟩)
 ·exact .inr h
def eN (env:Env):List (Str×NameKind)->List (Str×Addr)->List (Str×Addr)
 | [],acc=>acc
 | (n,k)::r,acc=>if k==.free then (match env.cells.lookup n with | some c=>eN env r ((n,c)::acc) | none=>eN env r acc) else eN env r acc
theorem wV {env:Env}:∀ (names:List (Str×NameKind)) (acc:List (Str×Addr)),(∀ y∈names,y.2=.free->∃ c,env.cells.lookup y.1=some c) ->
  (forIn names acc λ(x:Str×NameKind) (r:List (Str×Addr))=>(match x with
   | (name,kind)=>if (kind==NameKind.free)=true then (do let a<-cellOf env name; pure (ForInStep.yield ((name,a)::r))) else pure (ForInStep.yield r):Sem (ForInStep (List (Str×Addr)))))=(pure (eN env names acc):Sem _)
 | [],acc,_=>rfl
 | (n,k)::r,acc,h=>by
  have ih:=λacc=>wV r acc λy hy=>h y (Qk _ hy)
  rw [Zb]
  by_cases hk:(k==NameKind.free)=true
  ·obtain ⟨c,hc⟩:=h (n,k) Qj (by simpa using hk)
   have e1:eN env ((n,k)::r) acc=eN env r ((n,c)::acc):=by
    show (if k==.free then _ else _)=_
    rw [if_pos hk]; simp only at hc; rw [hc]
   simp only at hc
   rw [e1,<- ih]
   simp only [hk,if_true,cellOf,hc]
   rfl
  ·have e1:eN env ((n,k)::r) acc=eN env r acc:=by
    show (if k==.free then _ else _)=_
    rw [if_neg hk]
   rw [e1,<- ih]
   simp only [hk,if_false]
   rfl
theorem aC0 {env:Env} (h:∀ y∈scope.names,y.2=.free->∃ c,env.cells.lookup y.1=some c):closureFor scope env=pure (eN env scope.names []):=by
 unfold closureFor
 have e:=wV scope.names [] h
 show (forIn scope.names [] _ >>= _)=_
 exact (congrArg (λz=>z >>= λr=>pure r) e).trans rfl
theorem lC {env:Env}:∀ (names:List (Str×NameKind)) (acc:List (Str×Addr)) (n:Str) (c:Addr),(n,c)∈eN env names acc->(n,c)∈acc∨env.cells.lookup n=some c
 | [],_,_,_,h=>.inl h
 | (m,k)::r,acc,n,c,h=>by
  by_cases hk:(k==NameKind.free)=true
  ·rw [show eN env ((m,k)::r) acc=(match env.cells.lookup m with | some c=>eN env r ((m,c)::acc) | none=>eN env r acc) from if_pos hk] at h
   cases e:env.cells.lookup m with
   | none=>rw [e] at h; exact lC r acc n c h
   | some d =>
    rw [e] at h
    rcases lC r _ n c h with q | q
    ·rcases Qn.mp q with q | q
     ·cases q; exact .inr e
     ·exact .inl q
    ·exact .inr q
  ·rw [show eN env ((m,k)::r) acc=eN env r acc from if_neg hk] at h
   exact lC r acc n c h
theorem lD {env:Env}:∀ (names:List (Str×NameKind)) (acc:List (Str×Addr)) (n:Str),((∃ c,(n,c)∈acc)∨((n,NameKind.free)∈names/\∃ c,env.cells.lookup n=some c))->∃ c,(n,c)∈eN env names acc
 | [],_,_,h=>by
  rcases h with h | ⟨h,_⟩
  ·exact h
  ·cases h
 | (m,k)::r,acc,n,h=>by
  by_cases hk:(k==NameKind.free)=true
  ·rw [show eN env ((m,k)::r) acc=(match env.cells.lookup m with | some c=>eN env r ((m,c)::acc) | none=>eN env r acc) from if_pos hk]
   cases e:env.cells.lookup m with
   | none =>
    refine lD r acc n ?_
    rcases h with h | ⟨h,c,hc⟩
    ·exact .inl h
    ·rcases Qn.mp h with h | h
     ·cases h; rw [e] at hc; cases hc
     ·exact .inr ⟨h,c,hc⟩
   | some d =>
    refine lD r _ n ?_
    rcases h with ⟨c,h⟩ | ⟨h,c,hc⟩
    ·exact .inl ⟨c,Qk _ h⟩
    ·rcases Qn.mp h with h | h
     ·cases h; exact .inl ⟨d,Qj⟩
     ·exact .inr ⟨h,c,hc⟩
  ·rw [show eN env ((m,k)::r) acc=eN env r acc from if_neg hk]
   refine lD r acc n ?_
   rcases h with h | ⟨h,c,hc⟩
   ·exact .inl h
   ·rcases Qn.mp h with h | h
    ·cases h; exact absurd rfl hk
    ·exact .inr ⟨h,c,hc⟩
theorem jD:∀ {l:List (Str×β)} {a:Str} {b:β},l.lookup a=some b->(a,b)∈l:=PySem.mem_of_lookup_some
theorem lE:∀ {l:List (Str×β)} {a:Str} {b:β},(a,b)∈l->∃ c,l.lookup a=some c
 | (k,v)::l,a,b,h=>by
  rw [Xa]
  by_cases e:(a==k)=true
  ·rw [e]; exact ⟨v,rfl⟩
  ·have e':(a==k)=false:=by simpa using e
   rw [e']
   rcases Qn.mp h with h | h
   ·cases h; simp at e
   ·exact lE h
theorem iW {env:Env} (x:Str):∀ (names:List (Str×NameKind)),
  (names.map λ(n,k)=>if (k==NameKind.free && env.scope.kind==.function && env.kindOf n==some .cell) then (n,NameKind.cell) else (n,k)).lookup x =
   (names.lookup x).map λk=>if (k==NameKind.free && env.scope.kind==.function && env.kindOf x==some .cell) then NameKind.cell else k
 | []=>rfl
 | (n,k)::r=>by
  have ih:=iW (env:=env) x r
  rw [Qy]
  by_cases e:(x==n)=true
  ·have en:x=n:=by simpa using e
   subst en
   dsimp only
   by_cases c:(k==NameKind.free && env.scope.kind==.function && env.kindOf x==some .cell)=true
   ·rw [if_pos c,Xa,Xa,e]
    simp only [Xw,c,if_true]
   ·rw [if_neg c,Xa,Xa,e]
    simp only [Xw,c]
    rfl
  ·have e':(x==n)=false:=by simpa using e
   dsimp only
   by_cases c:(k==NameKind.free && env.scope.kind==.function && env.kindOf n==some .cell)=true
   ·rw [if_pos c,Xa,Xa,e']; exact ih
   ·rw [if_neg c,Xa,Xa,e']; exact ih
def zc (z:Option Str) (C:Addr):List (Str×Addr):=match z with
 | none=>[]
 | some x=>[(x,C+1)]
section
variable {x:Str}
theorem kH (h:(zc z C++cl).lookup x=some c):(z=some x/\c=C+1)∨(z≠some x/\cl.lookup x=some c):=by
 cases z with
 | none=>exact .inr ⟨λq=>(by cases q),h⟩
 | some z0 =>
  have h:((z0,C+1)::cl).lookup x=some c:=h
  rw [Xa] at h
  cases e:x==z0 with
  | true=>rw [e] at h; exact .inl ⟨by rw [show x=z0 by simpa using e],(Option.some.inj h).symm⟩
  | false=>rw [e] at h; exact .inr ⟨λq=>(by cases q; simp at e),h⟩
theorem aFH (h:z≠some x):(zc z C++cl).lookup x=cl.lookup x:=by
 cases z with
 | none=>rfl
 | some z0 =>
  show ((z0,C+1)::cl).lookup x=_
  rw [Xa,show (x==z0)=false by simpa using λq=>h (by rw [q])]
theorem aHb:(zc (some x) C++cl).lookup x=some (C+1):=by
 show ((x,C+1)::cl).lookup x=_
 rw [Xa,show (x==x)=true by simp]
end
def bP (X:Cx) (scope:Scope) (z:Option Str) (N:List Str) (C:Addr) (s0:Shared) (H0:Hp) (fp:List Addr):Cx where
 prog:=X.prog
 w:=X.w
 K:=X.K
 mg:=X.mg
 base:=X.base
 A:=X.A
 N:=N
 s0x:=s0
 H0x:=H0
 env:={ compEnvC scope (eN X.env scope.names []) C X.env with cells:=zc z C++eN X.env scope.names [] }
 outer:=X.stack
 stack:=X.stack
 ex:=fp
 fn:=λy=>z==some y
 calm:=X.calm
 pn:=[]
 xe:=λ_ _=>False
def jQ (sc scope:Scope) (z:Option Str) (own:List Str) (frn:List Str):Bool :=
 scope.kind==.function && scope.names.all (λy=>y.2 !=.cell || z==some y.1) && scope.names.all (λy=>y.2 !=.local || scope.names.lookup y.1==some .local) &&
 scope.names.all (λy=>y.2 !=.free || sc.names.lookup y.1==some .cell || sc.names.lookup y.1==some .free) && decide (own++frn).Nodup &&
 frn.all (λx=>scope.names.lookup x==some .free) && scope.names.all (λy=>y.2 !=.free || z !=some y.1)
def blk (own:Nat) (fr:List Nat) (σ:St):St:=List.replicate own none++fr.map λj=>(σ[j]?).join
structure CompOk (X:Cx) (scope:Scope) (z:Option Str) (own:List Str) (fr:List Nat) (frn:List Str):Prop where
 ck:jQ X.env.scope scope z own frn=true
 ix:∀ (k:Nat) (x:Str),frn[k]?=some x->∃ j:Nat,fr[k]?=some j/\X.N[j]?=some x
 len:fr.length=frn.length
 cf:∀ z0,z=some z0->(∀ (n:Nat) (cl:List (Str×Addr)),cellsFrom n scope.names cl=(z0,n)::cl)/\∀ h:Heap,pushCells h scope.names=h.push { cls:=.type "cell",data:=.cell none }
section
variable {fr:List Nat}
theorem CompOk.parts (S:CompOk X scope z own fr frn):scope.kind=.function/\(∀ y∈scope.names,y.2=.cell->z=some y.1)/\(∀ y∈scope.names,y.2=.local->scope.names.lookup y.1=some .local) /\
  (∀ y∈scope.names,y.2=.free->X.env.scope.names.lookup y.1=some .cell∨X.env.scope.names.lookup y.1=some .free)/\(own++frn).Nodup/\(∀ x∈frn,scope.names.lookup x=some .free)/\∀ y∈scope.names,y.2=.free->z≠some y.1:=by
 have h:=S.ck
 unfold jQ at h
 simp only [Jn,Jt,decide_eq_true_eq,Bool.or_eq_true,bne_iff_ne,ne_eq,beq_iff_eq] at h
 obtain ⟨⟨⟨⟨⟨⟨h1,h2⟩,h3⟩,h4⟩,h5⟩,h7⟩,h9⟩:=h
 exact ⟨h1,λy hy e=>(h2 y hy).resolve_left λq=>q e,λy hy e=>(h3 y hy).resolve_left λq=>q e,λy hy e=>by
  rcases h4 y hy with (q | q) | q
  ·exact absurd e q
  ·exact .inl q
  ·exact .inr q,h5,h7,λy hy e=>(h9 y hy).resolve_left λq=>q e⟩
theorem CompOk.env (S:CompOk X scope z own fr frn) {Q:Env->Shared->Prop} (h:∀ h1x tk,h1x.Ns s.heap.objs.size (λ_=>none)->(∀ b o,s.heap.get? b=some o->h1x.get? b=some o)->(z≠none->h1x.IsCell (s.heap.objs.size+1) none)->Q (newEnv scope s.heap.objs.size X.env.globals (zc z s.heap.objs.size++eN X.env scope.names []) X.env.qual none .none (some X.env) builtinsNs) { s with heap:=h1x,toks:=tk }) :
  wpAny M A (newFunctionEnv scope X.env.globals (eN X.env scope.names []) [] X.env.qual none .none (some X.env)) Q E s:=by
 obtain ⟨p1,p2,_⟩:=S.parts
 cases z with
 | none=>exact Raq (λy hy e=>by cases p2 y hy e) (by intro y hy; simp at hy) (λh1x hns hsb=>h h1x _ hns (λb o e=>hsb.extBut b o (Qz (Qm e)) (Qa _ e)) λq=>absurd rfl q) p1
 | some z0 =>
  obtain ⟨cf,pc⟩:=S.cf z0 rfl
  simp only [newFunctionEnv,Qaj,if_true]
  refine Ra (Rar ?_)
  refine Ra (wpAny_layCells _ (λname kind cells=>by cases hkc:kind==NameKind.cell <;> simp [hkc]) _ _ _ _ ?_)
  rw [cf,pc,show ({ s with heap:=s.heap.push { cls:=.type "dict",data:=.dict #[] } }:Shared).heap.objs.size=s.heap.objs.size+1 from Jk ..]
  rw [Zi]
  refine Ra (Rb (Rb (h _ s.toks ((Heap.Ns.new s.heap (.type "dict")).push _) (λb o e=>Qa _ (Qa _ e)) λ_=>⟨{ cls:=.type "cell",data:=.cell none },by
   have e:=Qg (s.heap.push { cls:=.type "dict",data:=.dict #[] }) (o:={ cls:=.type "cell",data:=.cell none }) rfl
   rw [Jk] at e
   exact e,rfl⟩)))
theorem CompOk.blen (S:CompOk X scope z own fr frn) (σ:St):(blk own.length fr σ).length=(own++frn).length:=by
 unfold blk
 rw [Qq,Qq,Xn,Qb,S.len]
theorem aC1 {σ:St} {h1:Heap} {tk:Nat} {oD:Obj} {m:Str->Option Value} (I:Inv X pins σ H s) (S:CompOk X scope z own fr frn) (hfp:∀ b∈fp,qE X pins H b) (hlt:∀ b∈fp,b < s.heap.objs.size) (hC:s.heap.objs.size<=C) (hn:h1.Ns C m) (hk:∀ b o,s.heap.get? b=some o->h1.get? b=some o) (hD:s.heap.objs.size<=D) (hDC:D≠C) (hoD:h1.get? D=some oD) (hdD:∀ v,oD.data≠.cell v) (hcl:z≠none->h1.IsCell (C+1) none) :
  Inv (bP X scope z (own++frn) C s H fp) [(D,oD)] (blk own.length fr σ) H { s with heap:=h1,toks:=tk }:=by
 obtain ⟨p1,p2,p3,p4,p5,p7,p9⟩:=S.parts
 have below:∀ b,b < s.heap.objs.size->b≠C:=λb hb z=>Ju _ (Qx (z ▸ hb) hC)
 have clsub:∀ x c,(eN X.env scope.names []).lookup x=some c->X.env.cells.lookup x=some c:=λx c e=>by
  rcases lC _ _ _ _ (jD e) with q | q
  ·cases q
  ·exact q
 have clt:∀ x c,X.env.cells.lookup x=some c->c < s.heap.objs.size:=λx c e=>by
  obtain ⟨v,q⟩:=I.cell x c e
  exact q.lt
 have nstk:∀ b∈fp,b∉frs X.stack:=λb hb z=>by
  obtain ⟨_,f1,f2,_⟩:=hfp b hb
  rcases Qn.mp (I.stkSub b z) with e | e
  ·exact f1 e
  ·exact f2 e
 have Dfs:D∉frs X.stack:=λz=>by
  have q:=I.stkSub D z
  rcases Qn.mp q with e | e
  ·exact Ju _ (Qx (e ▸ I.lt:D < _) hD)
  ·exact I.nofs hD e
 refine ⟨⟨I.ok.mod,p1,I.ok.glob,I.ok.blt,hC,λx y c e1 e2=>?inj,λx hx=>?has,λx c e e2=>?cab,I.ok.hd,I.ok.frames,.inl rfl,λb hb=>?exf,I.bs,Je I.ok.bsz I.sz,λb o e hb=>?noex,nstk,I.stack,I.stkFree⟩,
  rfl,I.bare,Un.kept hk,⟨m,hn,λi x v e1 e2 e3=>?loc⟩,λx c e=>?cell,I.hok.fresh hC,λx c e=>?freeC,λp hp=>?pin,I.hok.kept hk,S.blen σ⟩
 case inj =>
  have e1':(zc z C++eN X.env scope.names []).lookup x=some c:=e1
  have e2':(zc z C++eN X.env scope.names []).lookup y=some c:=e2
  rcases kH e1' with ⟨r1,rfl⟩ | ⟨n1,q1⟩ <;> rcases kH e2' with ⟨r2,e⟩ | ⟨n2,q2⟩
  ·exact Option.some.inj (r1.symm.trans r2)
  ·exact absurd (clt _ _ (clsub _ _ q2)) (Nat.not_lt.mpr (Zl hC))
  ·subst e
   exact absurd (clt _ _ (clsub _ _ q1)) (Nat.not_lt.mpr (Zl hC))
  ·exact I.ok.inj x y c (clsub x c q1) (clsub y c q2)
 case has =>
  have hx':(relabel scope X.env).names.lookup x=some .cell∨(relabel scope X.env).names.lookup x=some .free:=hx
  show ∃ c,(zc z C++eN X.env scope.names []).lookup x=some c
  by_cases hz:z=some x
  ·rw [hz,aHb]
   exact ⟨_,rfl⟩
  ·rw [aFH hz]
   have hl:(relabel scope X.env).names.lookup x=_:=iW (env:=X.env) x scope.names
   rw [hl] at hx'
   cases e:scope.names.lookup x with
   | none =>
    rw [e] at hx'
    rcases hx' with z | z <;> cases z
   | some k =>
    have hmem:=jD e
    have hkf:k=.free:=by
     rw [e] at hx'
     simp only [Xw,Option.some.injEq] at hx'
     by_cases c:(k==NameKind.free && X.env.scope.kind==.function && X.env.kindOf x==some .cell)=true
     ·simp only [Jn,beq_iff_eq] at c
      exact c.1.1
     ·rw [if_neg c] at hx'
      rcases hx' with z | z
      ·exact absurd (p2 _ hmem z) hz
      ·exact z
    subst hkf
    obtain ⟨c,hc⟩:=I.ok.has x (p4 _ hmem rfl)
    obtain ⟨c',hc'⟩:=lD (env:=X.env) scope.names [] x (.inr ⟨hmem,c,hc⟩)
    exact lE hc'
 case cab =>
  have e':(z==some x)=true:=e
  have e2':(zc z C++eN X.env scope.names []).lookup x=some c:=e2
  rcases kH e2' with ⟨_,rfl⟩ | ⟨n1,_⟩
  ·exact Zl hC
  ·exact absurd (by simpa using e') n1
 case exf =>
  refine ⟨below b (hlt b hb),λx c e=>?_⟩
  have e':(zc z C++eN X.env scope.names []).lookup x=some c:=e
  rcases kH e' with ⟨_,rfl⟩ | ⟨_,q⟩
  ·exact λz=>Ju _ (Qx (hlt b hb) (by rw [<- z]; exact Zl hC))
  ·exact (hfp b hb).2.2.2.2.1 x c (clsub x c q)
 case noex =>
  rcases (hfp b hb).2.2.2.1 with z | z
  ·exact I.ok.noex b o e z
  ·exact absurd (Qx (Qm (I.ok.bs b o e).1) z) (Ju _)
 case loc =>
  show ∃ u,bQ v u/\aGR _ _ _ x u
  have e1':(own++frn)[i]?=some x:=e1
  have e2':(blk own.length fr σ)[i]?=some (some v):=e2
  unfold blk at e2'
  by_cases hi:i < own.length
  ·rw [Qt (by simpa using hi),Xq] at e2'
   rw [if_pos hi] at e2'
   cases e2'
  ·rw [Ji (by simpa using hi)] at e2'
   rw [Ji (by omega)] at e1'
   rw [Xn,Qe] at e2'
   obtain ⟨j,hj1,hj2⟩:=S.ix _ _ e1'
   rw [hj1] at e2'
   simp only [Xw,Option.some.injEq] at e2'
   have hσ:σ[j]?=some (some v):=by
    cases q:σ[j]? with
    | none=>rw [q] at e2'; cases e2'
    | some w=>rw [q] at e2'; exact congrArg some e2'
   have hfree:=p7 x (Qi e1')
   have hmem:=jD hfree
   have hxz:z≠some x:=p9 _ hmem rfl
   have kx:=p4 _ hmem rfl
   have vis:Vis X.env.scope x:=by
    rcases kx with z | z
    ·exact .inr (.inl z)
    ·exact .inr (.inr z)
   obtain ⟨m0,hn0,hl0⟩:=I.loc
   obtain ⟨u,ru,lk⟩:=hl0 j x v hj2 hσ vis
   refine ⟨u,ru,.inr ⟨?_,?_⟩⟩
   ·show (relabel scope X.env).names.lookup x=some .cell∨(relabel scope X.env).names.lookup x=some .free
    have hl:(relabel scope X.env).names.lookup x=_:=iW (env:=X.env) x scope.names
    rw [hl,hfree]
    simp only [Xw,Option.some.injEq]
    by_cases c:(NameKind.free==NameKind.free && X.env.scope.kind==.function && X.env.kindOf x==some .cell)=true
    ·rw [if_pos c]; exact .inl rfl
    ·rw [if_neg c]; exact .inr rfl
   ·rcases lk with ⟨kl,_⟩ | ⟨_,c,hc,hcell⟩
    ·have kl':X.env.scope.names.lookup x=some .local:=kl
     rcases kx with z | z <;> (have z':X.env.scope.names.lookup x=_:=z; rw [kl'] at z'; cases z')
    ·obtain ⟨c',hc'⟩:=lD (env:=X.env) scope.names [] x (.inr ⟨hmem,c,hc⟩)
     obtain ⟨c2,hc2⟩:=lE hc'
     have ec:c2=c:=by
      have:=clsub x c2 hc2
      rw [hc] at this
      exact (Option.some.inj this).symm
     subst ec
     obtain ⟨oc,ho,hd⟩:=hcell
     exact ⟨c2,(aFH hxz).trans hc2,oc,hk _ _ ho,hd⟩
 case cell =>
  have e':(zc z C++eN X.env scope.names []).lookup x=some c:=e
  rcases kH e' with ⟨_,rfl⟩ | ⟨_,q⟩
  ·exact ⟨none,hcl λq=>by simp_all⟩
  ·obtain ⟨v,o,ho,hd⟩:=I.cell x c (clsub x c q)
   exact ⟨v,o,hk _ _ ho,hd⟩
 case freeC =>
  have e':(zc z C++eN X.env scope.names []).lookup x=some c:=e
  rcases kH e' with ⟨_,rfl⟩ | ⟨_,q⟩
  ·exact I.hok.fresh (Zl hC)
  ·exact I.freeC x c (clsub x c q)
 case pin =>
  have hp':p∈([]:List (Addr×Obj))++[(D,oD)]:=hp
  simp only [Zw,Qo] at hp'
  subst hp'
  exact ⟨hoD,I.hok.fresh hD,hDC,Dfs,hdD⟩
end
structure LoopOk (P:Program) (w:World) (A:Around) (e:Expr) (d:Nat) (tg iter:Expr) (ifs:List Expr) (bd:Env->Addr->Sem Unit):Prop where
 und:∀ (it:Value) (D:Addr) (env:Env),A.under (.compLoop e d it (.ref D) env)=A/\(model P w).den (.compLoop e d it (.ref D) env)=(compTurn e d it (.ref D) env).onRaise (λx=>do noteFrame x env; theTreesLotGoes x)
 turn:∀ (it:Value) (D:Addr) (env:Env),compTurn e d it (.ref D) env=(do
   standAt iter.pos
   match<-pyNext it with
   | none=>pure (.done .next)
   | some v =>
    letOwnedTupleGo tg it v
    assign tg env v
    let mut ok:=true
    for c in ifs do
     if ok then ok<-isTrue c env (eval c env)
    if ok then bd env D
    again (.compLoop e d it (.ref D) env))
 start:∀ {R:Result->Shared->Prop} {s:Shared} {it acc:Value} {env:Env},codeAny (model P w) A (.compLoop e d it acc env) R s->wpAny (model P w) A (pyIter it) (λit' s'=>codeAny (model P w) A (.compLoop e d it' acc env) R s') (notedBy (model P w) A env λx s'=>R (.error x) s') s->codeAny (model P w) A (.compStart e d it acc env) R s
structure AccOk {α:Type} (P:Program) (w:World) (A:Around) (na:Sem Value) (a0:α) (Ok:Addr->α->Heap->Prop):Prop where
 new:∃ o0:Obj,(∀ v,o0.data≠.cell v)/\o0.isFreed=false/\(∀ (h:Heap) D,h.get? D=some o0->Ok D a0 h)/\∀ {Q:Value->Shared->Prop} {E:Value->Shared->Prop} {s:Shared},Q (.ref s.heap.objs.size) { s with heap:=s.heap.push o0 }->wpAny (model P w) A na Q E s
 keep:∀ {D:Addr} {a:α} {h h':Heap},Ok D a h->(∀ o,h.get? D=some o->h'.get? D=some o)->Ok D a h'
 obj:∀ {D:Addr} {a:α} {h:Heap},Ok D a h->∃ o,h.get? D=some o/\∀ v,o.data≠.cell v
theorem wW {bd:Env->Addr->Sem Unit} {d:Nat} {target:Expr} {it:Value} {env:Env} (LO:LoopOk prog w A e d target iter ifs bd) (I:Nat->Shared->Prop) (turn:∀ n s,I n s->wpAny (model prog w) A (pyNext it) (λr s1x=>match r with
   | none=>R (.ok .next) s1x
   | some v=>wpAny (model prog w) A (letOwnedTupleGo target it v) (λ_ s1'=>wpAny (model prog w) A (assign target env v) (λ_ s2x =>
     wpAny (model prog w) A (forIn ifs true λc r=>if r=true then do let ok<-isTrue c env (eval c env); pure (ForInStep.yield ok) else pure (ForInStep.yield r)) (λok s3x =>
      if ok=true then wpAny (model prog w) A (bd env D) (λ_ s5x=>∃ m,m < n/\I m s5x) (λ_ _=>False) s3x
      else ∃ m,m < n/\I m s3x) (λ_ _=>False) s2x) (λ_ _=>False) s1') (λ_ _=>False) s1x) (λ_ _=>False) s) (n:Nat) (h:I n s) :
  codeAny (model prog w) A (.compLoop e d it (.ref D) env) R s:=by
 refine codeAny_loop rfl I (λn s hI=>?_) n h
 rw [(LO.und it D env).1,(LO.und it D env).2]
 refine wpAny_noted ?_
 rw [LO.turn]
 refine Ra (Tg (Ra (Rn (turn n s hI) (λr s1x h1x=>?_) λ_ _ h'=>h'.elim)))
 cases r with
 | none=>exact Rb h1x
 | some v =>
  refine Ra (Rn h1x (λ_ s1' h1'x=>?_) λ_ _ h'=>h'.elim)
  refine Ra (Rn h1'x (λ_ s2x h2x=>Ra (Rn h2x (λok s3x h3x=>?_) λ_ _ h'=>h'.elim)) λ_ _ h'=>h'.elim)
  cases ok with
  | false=>exact Rb ⟨rfl,h3x⟩
  | true=>exact Ra (Rn h3x (λ_ s5x h5x=>Rb ⟨rfl,h5x⟩) λ_ _ h'=>h'.elim)
def PF (X:Cx) (ifs:List Expr) (t:TT):Prop :=
 ∀ (pins:List (Addr×Obj)) (s:Shared) (σ:St) (H:Hp) (Q:Bool->Hp->Prop),Inv X pins σ H s->t σ H Q ->
  wpAny (model X.prog X.w) X.A (forIn ifs true λc r=>if r=true then do let ok<-isTrue c X.env (eval c X.env); pure (ForInStep.yield ok) else pure (ForInStep.yield r)) (TP X pins σ Q) X.xe s
def sS:TT:=λ_ H Q=>Q true H
theorem dO:PF X [] sS:=λ_ _ _ H _ I h=>wpAny_tests_nil ⟨H,I,h⟩
theorem mW {c:Expr} {t:TT} (h:PT X c t):PF X [c] t:=λpins s σ H Q I hq=>wpAny_tests_one (h pins s σ H Q I hq)
def Wlk (J:It) (a0:α) (σ0:St) (H1:Hp) (q:α->St->Hp->Prop) (g:TG) (tt:TT) (tb:α->St->Hp->(α->St->Hp->Prop)->Prop):Prop:=∃ W:Nat->Nat->α->St->Hp->Prop,(∃ m,W 0 m a0 σ0 H1)/\∀ i m a σ' H,W i m a σ' H->(J.stop i H/\q a σ' H) ∨
 (J.go i H/\∃ N:α->St->Hp->Prop,(∀ a' σ2 H2,N a' σ2 H2->∃ m',m' < m/\W (i+1) m' a' σ2 H2)/\∀ x H',J.yld i H x H'->g x σ' H' λσ2 H2=>tt σ2 H2 λb H3=>if b=true then tb a σ2 H3 N else N a σ2 H3)
def tbL (te:TE) (ys:List V) (σ:St) (H:Hp) (R:List V->St->Hp->Prop):Prop:=te σ H λy H4=>ys.length < sizeLine/\R (ys++[y]) σ H4
def aFI (own:Nat) (fr:List Nat) (wi:TI) (g:TG) (tt:TT) (te:TE):TE:=λσ H Q=>wi σ H λJ H1=>Wlk J [] (blk own fr σ) H1 (λys _ H=>∀ p,H p=none->Q (.ref p) (upd H p (.lst ys))) g tt (tbL te)
structure Dpl (Y:Cx) (D:Addr) (ps:List (Addr×Obj)):Prop where
 L:D≠Y.env.locals
 ex:D∈Y.ex∨Y.s0x.heap.objs.size<=D
 c:∀ x c,Y.env.cells.lookup x=some c->c≠D
 pn:∀ p∈Y.pn,p.1≠D
 fs:D∉Y.fs
 ps:∀ p∈ps,p.1≠D
section
variable {fr:List Nat} {d:Nat} {gs:List Comprehension} {wi:TI} {na:Sem Value} {bd:Env->Addr->Sem Unit} {a0:α} {Ok:Addr->α->Heap->Prop} {tb:α->St->Hp->(α->St->Hp->Prop)->Prop} {ps:List (Addr×Obj)} {σ:St}
theorem Inv.trackG {u:HO} (I:Inv X pins σ H s) (hn:H D=none) (hL:D≠X.env.locals)
  (h1:X.s0x.heap.objs.size<=D) (h2:∀ x c,X.env.cells.lookup x=some c->c≠D) (h3:∀ p∈X.pn++pins,p.1≠D) (hu:bN X.prog X.w (upd H D u) s.heap D u):Inv X pins σ (upd H D u) s:=by
 have ne:∀ b u,H b=some u->b≠D:=λb u e z=>by rw [z,hn] at e; cases e
 refine I.step (g':=s.gens) (d':=s.drawn) (t':=s.toks) (h':=s.heap) (ch:=[D]) (λb hb=>?_) (λb o _ _ _ e _=>e) (λb o _ _ _ e _=>⟨o.slots,e⟩) (λb o hc _ n=>?_) (λb o _ e=>⟨o,e⟩)
  (λb xs e=>by rw [aH (ne b _ e)]; exact e) (λb o u e=>by rw [aH (ne b _ e)]; exact e) (λb ps e=>⟨#[],by rw [aH (ne b _ e),e]; simp⟩) (λ_ h=>h) (λb u e=>?_) I.bare
 ·have e:b=D:=by simpa using hb
  subst e
  exact ⟨.inr h1,hL,h2,h3⟩
 ·rw [aH (by simpa using hc)]; exact n
 ·by_cases hb:b=D
  ·subst hb
   rw [aB] at e; cases e
   exact hu
  ·rw [aH hb] at e
   exact (I.hok b u e).stay (λc v _ q=>q) (λc q=>by rw [aH (ne c _ q)]; exact q) λc xs q=>by rw [aH (ne c _ q)]; exact q
theorem Dpl.put {t:Nat} {a:α} (dn:Dpl Y D ps) (AO:AccOk Y.prog Y.w Y.A na a0 Ok) (I:Inv Y ((D,o)::ps) σ H s) (sb:Heap.SameBut D s.heap h') (ok:Ok D a h'):∃ o',Inv Y ((D,o')::ps) σ H { s with heap:=h',toks:=t }:=by
 have hD:=(I.pin (D,o) (Jc _ (Qj ..))).2.1
 have I':Inv Y [] σ H s:=I.pins_of λp hp=>by cases hp
 have I11:=I'.turned (t':=t) (it:=D) (λb o hb e=>(sb.2 b hb).trans e) hD dn.L dn.ex dn.c (λp hp=>by rw [Zk] at hp; exact dn.pn p hp)
 obtain ⟨o',e',c'⟩:=AO.obj ok
 refine ⟨o',I11.pins_of λp hp=>?_⟩
 rcases Qn.mp hp with h | h
 ·subst h
  exact ⟨e',hD,dn.L,dn.fs,c'⟩
 ·obtain ⟨a1,a2,a3,a4,a5⟩:=I.pin p (Jc _ (Qk _ h))
  exact ⟨(sb.2 p.1 (dn.ps p h)).trans a1,a2,a3,a4,a5⟩
def lF (Y:Cx) (bd:Env->Addr->Sem Unit) (Ok:Addr->α->Heap->Prop) (tb:α->St->Hp->(α->St->Hp->Prop)->Prop):Prop:=∀ ps s σ H D o a R,Dpl Y D ps->Inv Y ((D,o)::ps) σ H s->Ok D a s.heap->tb a σ H R->wpAny (model Y.prog Y.w) Y.A (bd Y.env D) (λ_ s'=>∃ σ' H' a' o',Inv Y ((D,o')::ps) σ' H' s'/\Ok D a' s'.heap/\R a' σ' H') Y.xe s
theorem AccOk.stay {a:α} {σ':St} (AO:AccOk Y.prog Y.w Y.A na a0 Ok) (I:Inv Y ((D,o)::ps) σ H s) (I':Inv Y ((D,o)::ps) σ' H' s') (pl:Ok D a s.heap):Ok D a s'.heap :=
 AO.keep pl λ_ e=>(I'.pin (D,o) (Jc _ (Qj ..))).1.trans ((I.pin (D,o) (Jc _ (Qj ..))).1.symm.trans e)
theorem aBV {tn:Nat->Heap->Prop} {a:α} {F:α->St->Hp->Prop} (LO:LoopOk Y.prog Y.w Y.A e d tg iter ifs bd) (AO:AccOk Y.prog Y.w Y.A na a0 Ok) (hx:∀ v s',¬ Y.xe v s') (hc:Y.calm=true) (T:Turn Y.prog Y.w Y.K tg J fp it tn) (hg:PG Y tg g) (ht:PF Y ifs tt) (hb:lF Y bd Ok tb) (dn:Dpl Y D ps) (I0:Inv Y ((D,o)::ps) σ H s) (pl0:Ok D a s.heap) (st0:tn 0 s.heap) (f0:∀ b∈fp,qE Y ((D,o)::ps) H b) (w:Wlk J a σ H F g tt tb) (hR:∀ (s':Shared) (σ':St) (H':Hp) (a':α) (o':Obj),Inv Y ((D,o')::ps) σ' H' s'->Ok D a' s'.heap->F a' σ' H'->R (.ok .next) s') :
  codeAny (model Y.prog Y.w) Y.A (.compStart e d (.ref it) (.ref D) Y.env) R s:=by
 obtain ⟨W,⟨m0,w0⟩,turn⟩:=w
 have stat:∀ {H':Hp} {o':Obj},(∀ b∈fp,H' b=none)->∀ b∈fp,qE Y ((D,o')::ps) H' b:=λ{H' o'} hn b hb=>by
  obtain ⟨_,q1,q2,q3,q4,q5⟩:=f0 b hb
  refine ⟨hn b hb,q1,q2,q3,q4,λp hp=>?_⟩
  rcases Jh.mp hp with h | h
  ·exact q5 p (Jv _ h)
  ·rcases Qn.mp h with h | h
   ·rw [h]; exact q5 (D,o) (Jc _ (Qj ..))
   ·exact q5 p (Jc _ (Qk _ h))
 have loop:codeAny (model Y.prog Y.w) Y.A (.compLoop e d (.ref it) (.ref D) Y.env) R s:=by
  refine wW LO (λn s'=>∃ i σ' H' a o,Inv Y ((D,o)::ps) σ' H' s'/\Ok D a s'.heap/\tn i s'.heap/\(∀ b∈fp,H' b=none)/\W i n a σ' H') ?_ m0 ⟨0,σ,H,a,o,I0,pl0,st0,λb hb=>(f0 b hb).1,w0⟩
  rintro n s5 ⟨i,σ5,H5,ys,o,I5,pl5,st5,fr5,w5⟩
  rcases turn i n ys σ5 H5 w5 with ⟨stop,qn⟩ | ⟨go,N,hN,step⟩
  ·refine Rn (T.done Y rfl rfl rfl hc i _ s5 σ5 H5 (λ_ _=>False) I5 (stat fr5) st5 stop) (λr s6 hx9=>?_) λ_ _ z=>z
   obtain ⟨hr,I6⟩:=hx9
   subst hr
   exact hR s6 σ5 H5 ys o I6 (AO.stay I5 I6 pl5) qn
  ·refine Rn (T.item Y rfl rfl rfl hc i _ s5 σ5 H5 (λ_ _=>False) I5 (stat fr5) st5 go) (λr s6 hx9=>?_) λ_ _ z=>z
   obtain ⟨u,hr,h6⟩:=hx9
   subst hr
   refine Rn h6 (λ_ s7 hx9=>?_) λ_ _ z=>z
   obtain ⟨x,H7,I7,r7,y7,st7,fr7⟩:=hx9
   have I7':=I7.pinned (stat fr7) (T.obj _ _ st7)
   refine Rn (hg _ s7 σ5 H7 x u _ I7' r7 (step x H7 y7)) (λ_ s8 hx9=>?_) λv s' z=>hx v s' z
   obtain ⟨σ8,H8,I8,q8⟩:=hx9
   refine Rn (ht _ s8 σ8 H8 _ I8 q8) (λb s9 hx9=>?_) λv s' z=>hx v s' z
   obtain ⟨H9,I9,q9⟩:=hx9
   have pl9:Ok D ys s9.heap:=AO.stay I5 (I9.unpinned:Inv Y ((D,o)::ps) σ8 H9 s9) pl5
   have fin:∀ {s':Shared} {σ':St} {H':Hp} {o':Obj} {a':α},Inv Y ((D,o')::(ps++oQ fp s7.heap)) σ' H' s'->Ok D a' s'.heap->N a' σ' H'->∃ m,m < n/\∃ i σ' H' a o,Inv Y ((D,o)::ps) σ' H' s'/\Ok D a s'.heap/\tn i s'.heap/\(∀ b∈fp,H' b=none)/\W i m a σ' H':=λ{s' σ' H' o' a'} I' ok q=>by
    obtain ⟨m',hm,w'⟩:=hN a' σ' H' q
    have pin:=λb (hb:b∈fp) o e=>I'.pin (b,o) (Jc _ (Qk _ (Jc _ (mU hb e))))
    refine ⟨m',hm,i+1,σ',H',a',o',I'.pins_of λp hp=>I'.pin p (Jc _ ?_),ok,T.keep _ _ _ st7 λb hb o e=>(pin b hb o e).1,λb hb=>?_,w'⟩
    ·rcases Qn.mp hp with h | h
     ·exact h ▸ Qj ..
     ·exact Qk _ (Jv _ h)
    ·obtain ⟨o,e,_⟩:=T.obj _ _ st7 b hb
     exact (pin b hb o e).2.1
   cases b with
   | false =>
    rw [if_neg Qr] at q9
    rw [if_neg Qr]
    exact fin I9 pl9 q9
   | true =>
    rw [if_pos rfl] at q9
    rw [if_pos rfl]
    refine Rn (hb (ps++oQ fp s7.heap) s9 σ8 H9 D o ys _ ⟨dn.L,dn.ex,dn.c,dn.pn,dn.fs,λp hp=>?_⟩ I9 pl9 q9) (λ_ s11 hx9=>?_) λv s' z=>hx v s' z
    ·rcases Jh.mp hp with h | h
     ·exact dn.ps p h
     ·exact λq=>(f0 p.1 (tM h).1).2.2.2.2.2 (D,_) (Jc _ (Qj ..)) q.symm
    ·obtain ⟨σ',H',a',o',I',ok,q⟩:=hx9
     exact fin I' ok q
 exact LO.start loop (T.self Y.A 0 _ _ _ st0 loop)
theorem zV {s2:Shared} {tn:Nat->Heap->Prop} {RR:Value->Addr->Result->Shared->Prop} {Q:α->Hp->Prop} (S:CompOk X scope z own fr frn) (LO:LoopOk X.prog X.w X.A e 0 tg iter ifs bd) (AO:AccOk X.prog X.w X.A na a0 Ok) (hc:X.calm=true) (I2:Inv X pins σ H2 s2) (T:Turn X.prog X.w X.K tg J fp it tn) (st2:tn 0 s2.heap) (f2:∀ b∈fp,qE X pins H2 b) (hg:∀ C s0 H0 fp,PG (bP X scope z (own++frn) C s0 H0 fp) tg g) (ht:∀ C s0 H0 fp,PF (bP X scope z (own++frn) C s0 H0 fp) ifs tt) (hb:∀ C s0 H0 fp,lF (bP X scope z (own++frn) C s0 H0 fp) bd Ok tb) (w:Wlk J a0 (blk own.length fr σ) H2 (λa _ H=>Q a H) g tt tb) (hRR:∀ (C D:Addr) (s':Shared) (H':Hp) (ys:α) (m:Str->Option Value),s2.heap.objs.size<=C->s2.heap.objs.size<=D->D≠C->s'.heap.Ns C m->H' C=none->H' D=none->Ok D ys s'.heap->Inv X pins σ H' s'->Q ys H'->RR (.ref D) C (.ok .next) s') :
  wpAny (model X.prog X.w) X.A na (λacc s3x=>wpAny (model X.prog X.w) X.A (newFunctionEnv scope X.env.globals (eN X.env scope.names []) [] X.env.qual none .none (some X.env)) (λcenv s4x =>
   codeAny (model X.prog X.w) X.A (.compStart e 0 (.ref it) acc { cenv with scope:=relabel scope X.env }) (RR acc cenv.locals) s4x) E s3x) E s2:=by
 obtain ⟨o0,n0,f0,k0,nw⟩:=AO.new
 refine nw (S.env λh1x tk hns1x ol hcell=>?_)
 dsimp only at hns1x ol hcell ⊢
 generalize hH2:s2.heap.push o0=HD at hns1x ol hcell ⊢
 have hCs:HD.objs.size=s2.heap.objs.size+1:=by rw [<- hH2,Jk]
 have hDC:s2.heap.objs.size≠HD.objs.size:=by omega
 have hCle:s2.heap.objs.size<=HD.objs.size:=by omega
 have below:∀ b,b < s2.heap.objs.size->b≠HD.objs.size/\b≠s2.heap.objs.size:=λb hb=>⟨by omega,by omega⟩
 have old:∀ b o,s2.heap.get? b=some o->h1x.get? b=some o:=λb o e=>ol b o (hH2 ▸ Qa _ e)
 have hacc:h1x.get? s2.heap.objs.size=some o0:=ol _ _ (hH2 ▸ Qg _ f0)
 have flt:∀ b∈fp,b < s2.heap.objs.size:=λb hb=>by
  obtain ⟨o,e,_⟩:=T.obj _ _ st2 b hb
  exact Qm e
 generalize hDg:s2.heap.objs.size=D at *
 generalize hCg:HD.objs.size=C at *
 have st3:tn 0 h1x:=T.keep _ _ _ st2 λb _ o e=>old b o e
 have hcs:∀ x c,(zc z C++eN X.env scope.names []).lookup x=some c->c=C+1∨X.env.cells.lookup x=some c:=λx c e=>by
  rcases kH e with ⟨_,e⟩ | ⟨_,e⟩
  ·exact .inl e
  ·rcases lC _ _ _ _ (jD e) with q | q
   ·cases q
   ·exact .inr q
 have I3:Inv (bP X scope z (own++frn) C s2 H2 fp) [(D,_)] (blk own.length fr σ) H2 { s2 with heap:=h1x,toks:=tk } :=
  aC1 (m:=λ_=>none) I2 S f2 (by rw [hDg]; exact flt) (by rw [hDg]; exact hCle) (hns1x:h1x.Ns C _) old (by rw [hDg]; exact Qh _) hDC hacc n0 hcell
 refine aBV (Y:=bP X scope z (own++frn) C s2 H2 fp) LO AO (λ_ _ z=>z) hc T (hg C s2 H2 fp) (ht C s2 H2 fp) (hb C s2 H2 fp) ⟨hDC,.inr (by show s2.heap.objs.size<=D; rw [hDg]; exact Qh _),λx c e q=>?_,λp hp=>(by cases hp),λz=>?_,λp hp=>(by cases hp)⟩ I3 (k0 _ _ hacc) st3 (λb hb=>?_) w (λs6 σ6 H6 a o I6 pl qn=>?_)
 ·rcases hcs x c e with e | e
  ·exact Ju _ (Qx (Xx C) (Je (Qar (e.symm.trans q)) hCle))
  obtain ⟨v,u⟩:=I2.cell x c e
  exact Ju _ (Qx u.lt (by rw [hDg,q]; exact Qh _))
 ·rcases Qn.mp (I2.stkSub D z) with e | e
  ·exact Ju _ (Qx I2.lt (by rw [hDg,e]; exact Qh _))
  ·exact I2.nofs (by rw [hDg]; exact Qh _) e
 ·refine ⟨(f2 b hb).1,(below b (flt b hb)).1,λz=>?_,.inl hb,λx c e=>(by
   rcases hcs x c e with e | e
   ·exact λq=>Ju _ (Qx (flt b hb) (by rw [<- q,e]; exact Zl hCle))
   ·exact (f2 b hb).2.2.2.2.1 x c e),λp hp=>?_⟩
  ·have z':b∈frs X.stack:=z
   rcases Qn.mp (I2.stkSub b z') with e | e
   ·exact (f2 b hb).2.1 e
   ·exact (f2 b hb).2.2.1 e
  ·rw [Qo.mp (show p∈[(D,o0)] from hp)]
   exact Ne.symm (below b (flt b hb)).2
 ·obtain ⟨m6,hn6,_⟩:=I6.loc
  have p6:=I6.pin (D,o) (Jc _ (Qj ..))
  have IX:Inv X pins σ H6 s6:=I2.call' (ch:=fp) I6.os I6.base I6.hok I6.bare λb hb=>⟨(f2 b hb).2.2.2.1,(f2 b hb).2.1,(f2 b hb).2.2.2.2.1,(f2 b hb).2.2.2.2.2⟩
  exact hRR C D s6 H6 a m6 hCle (Qh _) hDC hn6 I6.free p6.2.1 pl IX qn
theorem wX {R:Value->Shared->Prop} {use:Option (Value->Sem Unit)} {q:α->Hp->Prop} (S:CompOk X scope z own fr frn) (cl:clausesOf e=⟨tg,iter,ifs,0⟩::gs) (LO:LoopOk X.prog X.w X.A e 0 tg iter ifs bd) (AO:AccOk X.prog X.w X.A na a0 Ok) (hc:X.calm=true) (hi:PI X tg iter wi) (hg:∀ C s0 H0 fp,PG (bP X scope z (own++frn) C s0 H0 fp) tg g) (ht:∀ C s0 H0 fp,PF (bP X scope z (own++frn) C s0 H0 fp) ifs tt)
  (hb:∀ C s0 H0 fp,lF (bP X scope z (own++frn) C s0 H0 fp) bd Ok tb) (hs:∀ x,foldedSetIterable iter X.env x=pure x) (I:Inv X pins σ H s)
  (h:wi σ H λJ H1=>Wlk J a0 (blk own.length fr σ) H1 (λa _ H=>q a H) g tt tb)
  (hq:∀ (C D:Addr) (s':Shared) (H':Hp) (a:α) (m:Str->Option Value),D≠C->s'.heap.Ns C m->H' C=none->H' D=none->Ok D a s'.heap->Inv X pins σ H' s'->q a H' ->
   (∀ b,b=C∨b=D->b≠X.env.locals/\X.s0x.heap.objs.size<=b/\sysModules < b/\(∀ x c,X.env.cells.lookup x=some c->c≠b)/\∀ p∈X.pn++pins,p.1≠b)->compPost (model X.prog X.w) X.A X.xe use R (.ref D) C (.ok .next) s') :
  wpAny (model X.prog X.w) X.A (comprehension e scope X.env pos na false (eval iter X.env) use) R X.xe s:=by
 obtain ⟨p1,p2,p3,p4,p5,p7,p9⟩:=S.parts
 refine wpAny_comprehension_free cl hs (aC0 λy hy e=>I.ok.has y.1 (p4 y hy e)) p1 p3 (thn (hi pins s σ H _ I h) λv s1 h1=>thn h1 λitv s2 h2=>?_)
 obtain ⟨it,fp,tn,J,H2,e,I2,T,st2,f2,hw⟩:=h2
 subst e
 refine zV (RR:=λacc C=>compPost (model X.prog X.w) X.A X.xe use R acc C) S LO AO hc I2 T st2 f2 hg ht hb hw λC D s' H' a m hC hD hDC hns hHC hHD pl IX z=>hq C D s' H' a m hDC hns hHC hHD pl IX z λb hb=>?_
 have hb':s2.heap.objs.size<=b:=by rcases hb with rfl | rfl; exact hC; exact hD
 exact ⟨λz=>Ju _ (Qx I2.lt (by rw [<- z]; exact hb')),Je I2.sz hb',Qx (Yq (by decide) (I2.mod.glob.keeps I2.bk).lt) hb',λx c e z=>by
  obtain ⟨v,w⟩:=I2.cell x c e
  exact Ju _ (Qx w.lt (by rw [z]; exact hb')),λp hp z=>Ju _ (Qx (Qm (I2.pin p hp).1) (by rw [z]; exact hb'))⟩
theorem qX {hq:(V->Hp->Prop)->α->Hp->Prop} (S:CompOk X scope z own fr frn) (cl:clausesOf e=⟨tg,iter,ifs,0⟩::gs) (LO:LoopOk X.prog X.w X.A e 0 tg iter ifs bd) (AO:AccOk X.prog X.w X.A na a0 Ok) (hc:X.calm=true) (ev:eval e X.env=comprehension e scope X.env pos na false (eval iter X.env) none) (hi:PI X tg iter wi) (hg:∀ C s0 H0 fp,PG (bP X scope z (own++frn) C s0 H0 fp) tg g) (ht:∀ C s0 H0 fp,PF (bP X scope z (own++frn) C s0 H0 fp) ifs tt)
  (hb:∀ C s0 H0 fp,lF (bP X scope z (own++frn) C s0 H0 fp) bd Ok tb) (hs:∀ x,foldedSetIterable iter X.env x=pure x)
  (tr:∀ {D:Addr} {a:α} {H:Hp} {h:Heap} {Q:V->Hp->Prop},Ok D a h->H D=none->(D==sysModules)=false->hq Q a H->∃ u,bN X.prog X.w (upd H D u) h D u/\Q (.ref D) (upd H D u)) :
  PE X e λσ H Q=>wi σ H λJ H1=>Wlk J a0 (blk own.length fr σ) H1 (λa _ H=>hq Q a H) g tt tb:=by
 intro pins s σ H Q I h
 rw [ev]
 refine wX (use:=none) S cl LO AO hc hi hg ht hb hs I h λC D s' H' a m hDC hns hHC hHD pl IX q ne=>?_
 obtain ⟨c1,c2,_,c3,c4⟩:=ne C (.inl rfl)
 obtain ⟨d1,d2,d5,d3,d4⟩:=ne D (.inr rfl)
 obtain ⟨u,ou,qu⟩:=tr pl hHD (beq_eq_false_iff_ne.mpr (Ne.symm (Qz d5))) q
 refine ⟨m,hns,λh' hs'=>⟨.ref D,upd H' D u,?_,rfl,qu⟩⟩
 exact (IX.trackG hHD d1 d2 d3 d4 ou).turned (t':=s'.toks) (it:=C) (λb o hb e=>(hs'.2 b hb).trans e) (by rw [aH (Ne.symm hDC)]; exact hHC) c1 (.inr c2) c3 c4
def OkL (D:Addr) (ys:List V) (h:Heap):Prop:=ys.length<=sizeLine/\∃ its:Array Value,h.PlainList D its/\bK ys its.toList
def bdL (elt:Expr) (env:Env) (D:Addr):Sem Unit:=do let _<-call (.builtin "list.append") [.ref D,<- eval elt env]
theorem aEI:AccOk P w A (newList []) [] OkL where
 new:=⟨{ cls:=.type "list",dict:=none,data:=.seq ([]:List Value).toArray },λv z=>(by cases z),rfl,λh D e=>⟨Jr _,#[],⟨_,e⟩,.nil⟩,λh=>Rk h⟩
 keep:=λ⟨hl,its,⟨k,e⟩,v⟩ f=>⟨hl,its,⟨k,f _ e⟩,v⟩
 obj:=λ⟨_,its,⟨k,e⟩,_⟩=>⟨_,e,λv z=>by cases z⟩
theorem aFJ:LoopOk P w A (.ListComp elt [⟨tg,iter,ifs,0⟩] scope pos) 0 tg iter ifs (bdL elt) where
 und:=λ_ _ _=>⟨rfl,rfl⟩
 turn:=λit D env=>compTurn_list elt tg iter ifs scope pos it (.ref D) env
 start:=codeAny_compStart_list
theorem aHc (he:PE Y elt te):lF Y (bdL elt) OkL (tbL te):=by
 intro ps s σ H D o ys R dn I pl h
 refine Ra (thn (he _ s σ H _ I h) λy s1 hx=>?_)
 obtain ⟨yv,H1,I1,r1,lt,q⟩:=hx
 obtain ⟨hl,its,pl1,v⟩:=aEI.stay I I1 pl
 have hlen:=v.length
 refine Ra (wpAny_list_append_plain pl1 (λh11 pl11 sb11=>Rb ?_) (by rw [<- Array.length_toList,<- hlen]; exact Yo lt))
 have ok:OkL D (ys++[yv]) h11:=⟨by rw [Qq]; exact lt,_,pl11,by rw [Array.toList_push]; exact v.append (.cons r1 .nil)⟩
 obtain ⟨o',I'⟩:=dn.put (t:=s1.toks) aEI I1 sb11 ok
 exact ⟨σ,H1,_,o',I',ok,q⟩
theorem trL {Q:V->Hp->Prop} (ok:OkL D ys h) (hn:H D=none) (q:∀ p,H p=none->Q (.ref p) (upd H p (.lst ys))):∃ u,bN P w (upd H D u) h D u/\Q (.ref D) (upd H D u) :=
 let ⟨hl,its,⟨k,e⟩,v⟩:=ok; ⟨.lst ys,⟨hl,its.toList,k,v,by simpa using e⟩,q _ hn⟩
theorem cB (S:CompOk X scope z own fr frn) (hc:X.calm=true) (hi:PI X tg iter wi) (hg:∀ C s0 H0 fp,PG (bP X scope z (own++frn) C s0 H0 fp) tg g) (ht:∀ C s0 H0 fp,PF (bP X scope z (own++frn) C s0 H0 fp) ifs tt) (he:∀ C s0 H0 fp,PE (bP X scope z (own++frn) C s0 H0 fp) elt te) (hs:∀ x,foldedSetIterable iter X.env x=pure x:=by intro _; rfl) :
  PE X (.ListComp elt [⟨tg,iter,ifs,0⟩] scope pos) (aFI own.length fr wi g tt te) :=
 qX S rfl aFJ aEI hc (eval_ListComp ..) hi hg ht (λC s0 H0 fp=>aHc (he C s0 H0 fp)) hs λok hn _ q=>trL ok hn q
theorem wY {tb:List V->St->Hp->(List V->St->Hp->Prop)->Prop} {i:Nat} {y:Str} {py spos:Pos} (S:CompOk X scope z own fr frn) (LO:LoopOk X.prog X.w X.A (.ListComp elt (⟨tg,iter,ifs,0⟩::gs) scope pos) 0 tg iter ifs bd) (hc:X.calm=true) (hN:X.N.Nodup) (hyi:X.N[i]?=some y) (hx:X.env.scope.names.lookup y=some .local) (hsw:swapsWith (.ListComp elt (⟨tg,iter,ifs,0⟩::gs) scope pos) (some (.Name y py)) spos.line X.env=pure true) (hi:PI X tg iter wi) (hg:∀ C s0 H0 fp,PG (bP X scope z (own++frn) C s0 H0 fp) tg g) (ht:∀ C s0 H0 fp,PF (bP X scope z (own++frn) C s0 H0 fp) ifs tt) (hb:∀ C s0 H0 fp,lF (bP X scope z (own++frn) C s0 H0 fp) bd OkL tb) (hs:∀ x,foldedSetIterable iter X.env x=pure x) :
  PS X (.Assign [.Name y py] (.ListComp elt (⟨tg,iter,ifs,0⟩::gs) scope pos) spos) (aEB (λσ H Q=>wi σ H λJ H1=>Wlk J [] (blk own.length fr σ) H1 (λys _ H=>∀ p,H p=none->Q (.ref p) (upd H p (.lst ys))) g tt tb) (fV i)):=by
 intro pins s σ H D I h
 rw [exec_Assign_Name_used _ _ _ _ hsw]
 refine Ra (Tg (Ra ?_))
 show wpAny _ X.A (do let _<-comprehension (.ListComp elt (⟨tg,iter,ifs,0⟩::gs) scope pos) scope X.env _ (newList []) false (eval iter X.env) (some (assign (.Name y py) X.env))) _ _ s
 refine Ra (Rn (wX (use:=some (assign (.Name y py) X.env)) (R:=λ_ s'=>SP X pins D .next s') S rfl LO aEI hc hi hg ht hb hs I h λC L s' H' ys m hLC hns hHC hHL pl IX q ne=>?_) (λ_ s' hq=>Rb (Rb hq)) λ_ _ e=>e)
 obtain ⟨c1,c2,_,c3,c4⟩:=ne C (.inl rfl)
 obtain ⟨d1,d2,_,d3,d4⟩:=ne L (.inr rfl)
 obtain ⟨hl,its,⟨k,e⟩,v⟩:=pl
 have IT:Inv X pins σ (upd H' L (.lst ys)) s':=IX.trackG hHL d1 d2 d3 d4 ⟨hl,its.toList,k,v,by simpa using e⟩
 show wpAny _ _ (assign (.Name y py) X.env (.ref L)) _ _ s'
 refine RaC (tL IT hN hyi (.inl hx) (v:=.ref L) rfl (λs'' I'' hch=>?_) (.inr hx))
 obtain ⟨a,sb,ha⟩:=hch
 have hCa:C≠a:=by
  rcases ha with e | e
  ·rw [e]; exact c1
  ·exact Ne.symm (c3 y a e)
 refine ⟨m,hns.sameBut sb hCa,λh' hs'=>⟨σ.set i (some (.ref L)),upd H' L (.lst ys),?_,q L hHL⟩⟩
 exact I''.turned (t':=s''.toks) (it:=C) (λb o hb e=>(hs'.2 b hb).trans e) (by rw [aH (Ne.symm hLC)]; exact hHC) c1 (.inr c2) c3 c4
theorem kI {i:Nat} {y:Str} {py spos:Pos} (S:CompOk X scope z own fr frn) (hc:X.calm=true) (hN:X.N.Nodup) (hyi:X.N[i]?=some y) (hx:X.env.scope.names.lookup y=some .local) (hsw:swapsWith (.ListComp elt [⟨tg,iter,ifs,0⟩] scope pos) (some (.Name y py)) spos.line X.env=pure true) (hi:PI X tg iter wi) (hg:∀ C s0 H0 fp,PG (bP X scope z (own++frn) C s0 H0 fp) tg g) (ht:∀ C s0 H0 fp,PF (bP X scope z (own++frn) C s0 H0 fp) ifs tt) (he:∀ C s0 H0 fp,PE (bP X scope z (own++frn) C s0 H0 fp) elt te) (hs:∀ x,foldedSetIterable iter X.env x=pure x:=by intro _; rfl) :
  PS X (.Assign [.Name y py] (.ListComp elt [⟨tg,iter,ifs,0⟩] scope pos) spos) (aEB (aFI own.length fr wi g tt te) (fV i)) :=
 wY S aFJ hc hN hyi hx hsw hi hg ht (λC s0 H0 fp=>aHc (he C s0 H0 fp)) hs
end
inductive Kd where
 | int | bl | non | str | tup | lst | dct
 deriving DecidableEq
def KdV (K:Rc) (H:Hp):V->Kd->Prop
 | .int _,k=>k=.int
 | .bl _,k=>k=.bl
 | .non,k=>k=.non
 | .str _,k=>k=.str
 | .ref p,k=>(k=.lst/\∃ xs,SqL K H p xs)∨(k=.tup/\∃ xs,SqT K H p xs)∨(k=.dct/\∃ kvs,H p=some (.dK kvs))
 | _,_=>False
theorem uZ {σ:St} {p:Addr} {kvs:List (Key×V)} (I:Inv X pins σ H s) (h:H p=some (.dK kvs)):∃ o,s.heap.get? p=some o/\o.cls=.type "dict" := by
 obtain ⟨_,_,vs,_,o,es,ep,e,ex,_⟩:=I.hok p _ h
 exact ⟨o,e,ex.1⟩
theorem iH:dM X (.builtin "isinstance") (λxs H Q=>∃ x k,xs = [x,.ty "int"]/\KdV X.K H x k/\Q (.bl (decide (k=.int∨k=.bl))) H):=by
 intro pins s σ H xs us Q I r h
 obtain ⟨x,k,rfl,hk,q⟩:=h
 obtain ⟨u,t,rfl,rx,rt⟩:=pU r
 cases rt
 cases x with
 | int i=>cases hk; obtain ⟨t,rfl⟩:=rx; exact IsiPair.int_int ⟨.bl true,H,I,rfl,q⟩
 | bl b=>cases hk; cases rx; exact IsiPair.bool_int ⟨.bl true,H,I,rfl,q⟩
 | non=>cases hk; cases rx; exact IsiPair.NoneType_int ⟨.bl false,H,I.tok _,rfl,q⟩
 | str y=>cases hk; obtain ⟨t,rfl⟩:=rx; exact IsiPair.str_int ⟨.bl false,H,I.tok _,rfl,q⟩
 | ref p =>
  cases rx
  rcases hk with ⟨rfl,xs,hx⟩ | ⟨rfl,xs,hx⟩ | ⟨rfl,kvs,hx⟩
  ·obtain ⟨its,r',pl,hz⟩:=I.list hx; exact IsiPair.isList_int pl.isList (λ_ _ e=>e) ⟨.bl false,H,I.tok _,rfl,q⟩
  ·obtain ⟨its,r',pl,hz⟩:=I.tuple hx; exact IsiPair.isTuple_int pl (λ_ _ e=>e) ⟨.bl false,H,I.tok _,rfl,q⟩
  ·obtain ⟨o,e,c⟩:=uZ I hx; exact IsiPair.dict_int e c ⟨.bl false,H,I.tok _,rfl,q⟩
 | _=>exact hk.elim
theorem jH:dM X (.builtin "isinstance") (λxs H Q=>∃ x k,xs = [x,.ty "bool"]/\KdV X.K H x k/\Q (.bl (decide (k=.bl))) H):=by
 intro pins s σ H xs us Q I r h
 obtain ⟨x,k,rfl,hk,q⟩:=h
 obtain ⟨u,t,rfl,rx,rt⟩:=pU r
 cases rt
 cases x with
 | int i=>cases hk; obtain ⟨t,rfl⟩:=rx; exact IsiPair.int_bool ⟨.bl false,H,I.tok _,rfl,q⟩
 | bl b=>cases hk; cases rx; exact IsiPair.bool_bool ⟨.bl true,H,I,rfl,q⟩
 | non=>cases hk; cases rx; exact IsiPair.NoneType_bool ⟨.bl false,H,I.tok _,rfl,q⟩
 | str y=>cases hk; obtain ⟨t,rfl⟩:=rx; exact IsiPair.str_bool ⟨.bl false,H,I.tok _,rfl,q⟩
 | ref p =>
  cases rx
  rcases hk with ⟨rfl,xs,hx⟩ | ⟨rfl,xs,hx⟩ | ⟨rfl,kvs,hx⟩
  ·obtain ⟨its,r',pl,hz⟩:=I.list hx; exact IsiPair.isList_bool pl.isList (λ_ _ e=>e) ⟨.bl false,H,I.tok _,rfl,q⟩
  ·obtain ⟨its,r',pl,hz⟩:=I.tuple hx; exact IsiPair.isTuple_bool pl (λ_ _ e=>e) ⟨.bl false,H,I.tok _,rfl,q⟩
  ·obtain ⟨o,e,c⟩:=uZ I hx; exact IsiPair.dict_bool e c ⟨.bl false,H,I.tok _,rfl,q⟩
 | _=>exact hk.elim
theorem cW:dM X (.builtin "isinstance") (λxs H Q=>∃ x k,xs = [x,.ty "tuple"]/\KdV X.K H x k/\Q (.bl (decide (k=.tup))) H):=by
 intro pins s σ H xs us Q I r h
 obtain ⟨x,k,rfl,hk,q⟩:=h
 obtain ⟨u,t,rfl,rx,rt⟩:=pU r
 cases rt
 cases x with
 | int i=>cases hk; obtain ⟨t,rfl⟩:=rx; exact IsiPair.int_tuple ⟨.bl false,H,I.tok _,rfl,q⟩
 | bl b=>cases hk; cases rx; exact IsiPair.bool_tuple ⟨.bl false,H,I.tok _,rfl,q⟩
 | non=>cases hk; cases rx; exact IsiPair.NoneType_tuple ⟨.bl false,H,I.tok _,rfl,q⟩
 | str y=>cases hk; obtain ⟨t,rfl⟩:=rx; exact IsiPair.str_tuple ⟨.bl false,H,I.tok _,rfl,q⟩
 | ref p =>
  cases rx
  rcases hk with ⟨rfl,xs,hx⟩ | ⟨rfl,xs,hx⟩ | ⟨rfl,kvs,hx⟩
  ·obtain ⟨its,r',pl,hz⟩:=I.list hx; exact IsiPair.isList_tuple pl.isList (λ_ _ e=>e) ⟨.bl false,H,I.tok _,rfl,q⟩
  ·obtain ⟨its,r',pl,hz⟩:=I.tuple hx; exact IsiPair.isTuple_tuple pl (λ_ _ e=>e) ⟨.bl true,H,I,rfl,q⟩
  ·obtain ⟨o,e,c⟩:=uZ I hx; exact IsiPair.dict_tuple e c ⟨.bl false,H,I.tok _,rfl,q⟩
 | _=>exact hk.elim
theorem jI:dM X (.builtin "isinstance") (λxs H Q=>∃ x k,xs = [x,.ty "list"]/\KdV X.K H x k/\Q (.bl (decide (k=.lst))) H):=by
 intro pins s σ H xs us Q I r h
 obtain ⟨x,k,rfl,hk,q⟩:=h
 obtain ⟨u,t,rfl,rx,rt⟩:=pU r
 cases rt
 cases x with
 | int i=>cases hk; obtain ⟨t,rfl⟩:=rx; exact IsiPair.int_list ⟨.bl false,H,I.tok _,rfl,q⟩
 | bl b=>cases hk; cases rx; exact IsiPair.bool_list ⟨.bl false,H,I.tok _,rfl,q⟩
 | non=>cases hk; cases rx; exact IsiPair.NoneType_list ⟨.bl false,H,I.tok _,rfl,q⟩
 | str y=>cases hk; obtain ⟨t,rfl⟩:=rx; exact IsiPair.str_list ⟨.bl false,H,I.tok _,rfl,q⟩
 | ref p =>
  cases rx
  rcases hk with ⟨rfl,xs,hx⟩ | ⟨rfl,xs,hx⟩ | ⟨rfl,kvs,hx⟩
  ·obtain ⟨its,r',pl,hz⟩:=I.list hx; exact IsiPair.isList_list pl.isList (λ_ _ e=>e) ⟨.bl true,H,I,rfl,q⟩
  ·obtain ⟨its,r',pl,hz⟩:=I.tuple hx; exact IsiPair.isTuple_list pl (λ_ _ e=>e) ⟨.bl false,H,I.tok _,rfl,q⟩
  ·obtain ⟨o,e,c⟩:=uZ I hx; exact IsiPair.dict_list e c ⟨.bl false,H,I.tok _,rfl,q⟩
 | _=>exact hk.elim
theorem aBW (bs:List Bool) (tr:Nat->Bool) (h:∀ i b,bs[i]?=some b->tr i=b):(List.range bs.length).all tr=bs.all id:=by
 rw [Za,Jt,Jt]
 constructor
 ·intro q b hb
  obtain ⟨i,hi⟩:=List.getElem?_of_mem hb
  have:=q i (Jw.mpr (Qd.mp hi).1)
  rw [h i b hi] at this
  exact this
 ·intro q i hi
  have hi':=Jw.mp hi
  have e:bs[i]?=some bs[i]:=Qc hi'
  rw [h i _ e]
  exact q _ (Xb hi')
theorem gY (hc:X.calm=true):dM X (.builtin "all") (λxs H Q=>∃ (p:Addr) (bs:List Bool),xs = [.ref p]/\SqL X.K H p (bs.map V.bl)/\Q (.bl (bs.all id)) H):=by
 intro pins s σ H xs us Q I r h
 obtain ⟨p,bs,rfl,hx,q⟩:=h
 obtain ⟨u,rfl,rx⟩:=fX r
 cases rx
 obtain ⟨its,rv,pl,hz⟩:=I.list hx
 have hl:=rv.length
 rw [Qb] at hl
 have hlt:p < s.heap.objs.size:=by obtain ⟨o,n,e,_⟩:=pl; exact Qm e
 refine call_all_walk (Tq pl.isList ?_)
 refine ⟨s.heap.objs.size,_,_,_,_,_,λi=>(bs[i]?).getD false,rfl,Walks.list (A:=X.A.in1) (I.ok.hd hc) s.heap.objs.size p (Qz hlt) its.toArray,⟨⟨_,Qg _ rfl,rfl,rfl⟩,pl.isList.push _⟩,?_,λh' tk hk=>?_⟩
 ·intro i v s' Q' E' hP hQ'
  have hP':its[i]?=some v:=by simpa using hP
  have hi:i < bs.length:=by rw [hl]; exact (Qd.mp hP').1
  obtain ⟨w,hw,rw'⟩:=rv.get (i:=i) (x:=.bl bs[i]) (by rw [Qe,Qc hi]; rfl)
  rw [hw] at hP'
  cases hP'
  cases rw'
  have e:(bs[i]?).getD false=bs[i]:=by rw [Qc hi]; rfl
  rw [<- e]
  exact Rt hQ'
 ·have e:(List.range its.toArray.size).all (λi=>(bs[i]?).getD false)=bs.all id:=by
   rw [Ql,<- hl]
   exact aBW bs _ λi b hb=>by rw [hb]; rfl
  rw [e]
  refine ⟨.bl _,H,I.kept (h':=h') λb o e=>hk b o ?_ (Qa _ e),rfl,q⟩
  intro z
  have z':b=s.heap.objs.size:=by simpa using z
  exact Ju _ (z' ▸ Qm e)
def aQ (ns:List Int):Int:=ns.foldr (· + ·) 0
theorem gZ (ns:List Int) (val:Nat->Int) (h:∀ (i:Nat) (v:Int),ns[i]?=some v->val i=v):∀ j,j<=ns.length->preSum val j=aQ (ns.take j)
 | 0,_=>rfl
 | j+1,hj=>by
  have ih:=gZ ns val h j (by omega)
  have e:ns[j]?=some ns[j]:=Qc (by omega)
  show preSum val j+val j=_
  rw [ih,h j _ e,Jd,e]
  unfold aQ
  rw [List.foldr_append]
  simp only [Option.toList_some,List.foldr_cons,List.foldr_nil,Int.add_zero]
  generalize ns[j]=v
  induction (List.take j ns) with
  | nil=>simp
  | cons a l ih2=>simp only [List.foldr_cons]; omega
theorem aC2 (hc:X.calm=true):dM X (.builtin "sum") (λxs H Q=>∃ (p:Addr) (ns:List Int),xs = [.ref p]/\SqL X.K H p (ns.map V.int)/\(∀ n∈ns,0<=n/\n < 1000000)/\ns.length<=1000000/\Q (.int (aQ ns)) H):=by
 intro pins s σ H xs us Q I r h
 obtain ⟨p,ns,rfl,hx,hb,hlen,q⟩:=h
 obtain ⟨u,rfl,rx⟩:=fX r
 cases rx
 obtain ⟨its,rv,pl,hz⟩:=I.list hx
 have hl:=rv.length
 rw [Qb] at hl
 have hlt:p < s.heap.objs.size:=by obtain ⟨o,n,e,_⟩:=pl; exact Qm e
 have hval:∀ (i:Nat) (v:Int),ns[i]?=some v->(ns[i]?).getD 0=v:=λi v e=>by rw [e]; rfl
 have bnd:∀ (ms:List Int),(∀ n∈ms,0<=n/\n < 1000000)->0<=aQ ms/\aQ ms<=ms.length*1000000:=λms=>by
  induction ms with
  | nil=>intro _; exact ⟨Xd _,Xd _⟩
  | cons a l ih =>
   intro hh
   have h1:=hh a Qj
   have h2:=ih λn hn=>hh n (Qk _ hn)
   have e:aQ (a::l)=a+aQ l:=rfl
   rw [e,Ja]
   rw [Yg]
   omega
 refine call_sum_walk (Tq pl.isList ?_)
 refine ⟨s.heap.objs.size,_,_,_,_,_,λi=>(ns[i]?).getD 0,rfl,Walks.list (A:=X.A.in1) (I.ok.hd hc) s.heap.objs.size p (Qz hlt) its.toArray,⟨⟨_,Qg _ rfl,rfl,rfl⟩,pl.isList.push _⟩,?_,?_,?_,λh' tk t' hk=>?_⟩
 ·intro b hb'
  rw [Jk]
  rcases Qn.mp hb' with e | e
  ·rw [e]; exact Xx _
  ·have e':b=p:=by simpa using e
   rw [e']; exact Jx hlt
 ·intro i v hP
  have hP':its[i]?=some v:=by simpa using hP
  have hi:i < ns.length:=by rw [hl]; exact (Qd.mp hP').1
  obtain ⟨w,hw,rw'⟩:=rv.get (i:=i) (x:=.int ns[i]) (by rw [Qe,Qc hi]; rfl)
  rw [hw] at hP'
  cases hP'
  obtain ⟨t,rfl⟩:=rw'
  exact ⟨t,by show Value.int ns[i] t=Value.int ((ns[i]?).getD 0) t; rw [Qc hi]; rfl⟩
 ·intro j hj
  have hj':j < ns.length:=by rw [hl]; simpa using hj
  have e:ns[j]?=some ns[j]:=Qc hj'
  have h1:=hb _ (Xb hj')
  have h2:=bnd (ns.take (j+1)) λn hn=>hb n (Xh hn)
  rw [gZ ns _ hval (j+1) (by omega)]
  have h3:(ns.take (j+1)).length<=1000000:=by rw [Qv]; omega
  unfold InLong
  have e5:(λi:Nat=>(ns[i]?).getD 0) j=ns[j]:=by show (ns[j]?).getD 0=_; rw [e]; rfl
  rw [e5]
  have h4:((ns.take (j+1)).length:Int)*1000000<=1000000*1000000:=by omega
  omega
 ·have e:preSum (λi=>(ns[i]?).getD 0) its.toArray.size=aQ ns:=by
   rw [Ql,<- hl,gZ ns _ hval ns.length (Qh _),Jf]
  rw [e]
  refine ⟨.int _,H,I.kept (h':=h') λb o e=>hk b o ?_ (Qa _ e),⟨_,rfl⟩,q⟩
  intro z
  have z':b=s.heap.objs.size:=by simpa using z
  exact Ju _ (z' ▸ Qm e)
mutual
def Den (K:Rc) (H:Hp):PyData->V->Prop
 | .none,v=>v=.non
 | .bool b,v=>v=.bl b
 | .int i,v=>v=.int i
 | .str x,v=>v=.str x
 | .list ds,v=>∃ a xs,v=.ref a/\SqL K H a xs/\aT K H ds xs
 | .tuple ds,v=>∃ a xs,v=.ref a/\SqT K H a xs/\aT K H ds xs
 | .dict kvs,v=>kvs = []/\∃ a,v=.ref a/\H a=some (.dK [])
def aT (K:Rc) (H:Hp):List PyData->List V->Prop
 | [],xs=>xs = []
 | d::ds,xs=>∃ x r,xs=x::r/\Den K H d x/\aT K H ds r
end
theorem aD.rd {u:HO} (e:aD H H') (h:Rd H a u):Rd H' a u:=by
 rcases h with h | ⟨o,h⟩
 ·exact .inl (e a u h)
 ·exact .inr ⟨o,e a _ h⟩
theorem aD.seqL (e:aD H H') (h:SqL K H a xs):SqL K H' a xs:=by
 rcases h with h | h
 ·exact .inl (e.rd h)
 ·exact .inr h
theorem aD.seqT (e:aD H H') (h:SqT K H a xs):SqT K H' a xs:=by
 rcases h with h | h
 ·exact .inl (e.rd h)
 ·exact .inr h
theorem aD.new {p:Addr} {o:HO} (h:H p=none):aD H (upd H p o):=λb u e=>by rw [aH (gK e h)]; exact e
mutual
theorem aD.den (e:aD H H'):∀ (d:PyData) (v:V),Den K H d v->Den K H' d v
 | .none,v,h=>by unfold Den at h ⊢; exact h
 | .bool b,v,h=>by unfold Den at h ⊢; exact h
 | .int i,v,h=>by unfold Den at h ⊢; exact h
 | .str x,v,h=>by unfold Den at h ⊢; exact h
 | .list ds,v,h=>by unfold Den at h ⊢; obtain ⟨a,xs,h1,h2,h3⟩:=h; exact ⟨a,xs,h1,e.seqL h2,aD.denAll e ds xs h3⟩
 | .tuple ds,v,h=>by unfold Den at h ⊢; obtain ⟨a,xs,h1,h2,h3⟩:=h; exact ⟨a,xs,h1,e.seqT h2,aD.denAll e ds xs h3⟩
 | .dict kvs,v,h=>by unfold Den at h ⊢; obtain ⟨h1,a,h2,h3⟩:=h; exact ⟨h1,a,h2,e a _ h3⟩
theorem aD.denAll (e:aD H H'):∀ (ds:List PyData) (xs:List V),aT K H ds xs->aT K H' ds xs
 | [],xs,h=>by unfold aT at h ⊢; exact h
 | d::ds,xs,h=>by unfold aT at h ⊢; obtain ⟨x,r,h1,h2,h3⟩:=h; exact ⟨x,r,h1,aD.den e d x h2,aD.denAll e ds r h3⟩
end
theorem cK {i:Int}:Den K H (.int i) v↔v=.int i:=by unfold Den; exact Iff.rfl
theorem wZ {b:Bool}:Den K H (.bool b) v↔v=.bl b:=by unfold Den; exact Iff.rfl
theorem xA:Den K H .none v↔v=.non:=by unfold Den; exact Iff.rfl
theorem aAZ {x:Str}:Den K H (.str x) v↔v=.str x:=by unfold Den; exact Iff.rfl
theorem cX:Den K H (.list ds) v↔∃ a xs,v=.ref a/\SqL K H a xs/\aT K H ds xs:=by
 constructor
 ·intro h; unfold Den at h; exact h
 ·intro h; unfold Den; exact h
theorem cC:Den K H (.tuple ds) v↔∃ a xs,v=.ref a/\SqT K H a xs/\aT K H ds xs:=by
 constructor
 ·intro h; unfold Den at h; exact h
 ·intro h; unfold Den; exact h
theorem aC3 {kvs:List (PyData×PyData)}:Den K H (.dict kvs) v↔kvs = []/\∃ a,v=.ref a/\H a=some (.dK []):=by
 constructor
 ·intro h; unfold Den at h; exact h
 ·intro h; unfold Den; exact h
theorem aO:aT K H [] xs↔xs = []:=by unfold aT; exact Iff.rfl
theorem aL {d:PyData}:aT K H (d::ds) xs↔∃ x r,xs=x::r/\Den K H d x/\aT K H ds r:=by
 constructor
 ·intro h; unfold aT at h; exact h
 ·intro h; unfold aT; exact h
theorem aN:∀ {ds:List PyData} {xs:List V},aT K H ds xs->xs.length=ds.length
 | [],xs,h=>by rw [aO.mp h]; rfl
 | d::ds,xs,h=>by
  obtain ⟨x,r,rfl,_,h3⟩:=aL.mp h
  rw [Ja,Ja,aN h3]
theorem qY:∀ {ds:List PyData} {xs:List V} {i:Nat} {d:PyData},aT K H ds xs->ds[i]?=some d->∃ x,xs[i]?=some x/\Den K H d x
 | [],_,_,_,_,e=>by simp at e
 | d::ds,xs,0,d',h,e=>by
  obtain ⟨x,r,rfl,h2,_⟩:=aL.mp h
  simp at e; subst e
  exact ⟨x,rfl,h2⟩
 | d::ds,xs,i+1,d',h,e=>by
  obtain ⟨x,r,rfl,_,h3⟩:=aL.mp h
  obtain ⟨y,h4,h5⟩:=qY (i:=i) (d:=d') h3 (by simpa using e)
  exact ⟨y,by simpa using h4,h5⟩
theorem bU {i:Nat} (h:aT K H ds xs) (e:xs[i]?=some x):∃ d,ds[i]?=some d/\Den K H d x:=by
 have hl:=aN h
 have hi:i < ds.length:=by rw [<- hl]; exact (Qd.mp e).1
 obtain ⟨y,h1,h2⟩:=qY h (Qc hi)
 rw [e] at h1; cases h1
 exact ⟨_,Qc hi,h2⟩
theorem bO:∀ {ds es:List PyData} {xs ys:List V},aT K H ds xs->aT K H es ys->aT K H (ds++es) (xs++ys)
 | [],es,xs,ys,h,h'=>by rw [aO.mp h]; exact h'
 | d::ds,es,xs,ys,h,h'=>by
  obtain ⟨x,r,rfl,h2,h3⟩:=aL.mp h
  exact aL.mpr ⟨x,r++ys,rfl,h2,bO h3 h'⟩
theorem jE:∀ {ds:List PyData} {xs:List V} (n:Nat),aT K H ds xs->aT K H (ds.take n) (xs.take n)
 | _,_,0,_=>by rw [Yn,Yn]; exact aO.mpr rfl
 | [],xs,n+1,h=>by rw [aO.mp h]; exact aO.mpr rfl
 | d::ds,xs,n+1,h=>by
  obtain ⟨x,r,rfl,h2,h3⟩:=aL.mp h
  exact aL.mpr ⟨x,r.take n,rfl,h2,jE n h3⟩
theorem jF:∀ {ds:List PyData} {xs:List V} (n:Nat),aT K H ds xs->aT K H (ds.drop n) (xs.drop n)
 | _,_,0,h=>h
 | [],xs,n+1,h=>by rw [aO.mp h]; exact aO.mpr rfl
 | d::ds,xs,n+1,h=>by
  obtain ⟨x,r,rfl,h2,h3⟩:=aL.mp h
  exact jF n h3
theorem cD:∀ {ns:List Int} {xs:List V},aT K H (ns.map PyData.int) xs↔xs=ns.map V.int
 | [],xs=>aO
 | n::ns,xs=>by
  rw [Qy,aL]
  constructor
  ·rintro ⟨x,r,rfl,h2,h3⟩
   rw [cK.mp h2,cD.mp h3]
   rfl
  ·intro e
   exact ⟨_,_,e,cK.mpr rfl,cD.mpr rfl⟩
theorem aP:Den K H (.tuple (ns.map .int)) v↔∃ a,v=.ref a/\SqT K H a (ns.map V.int):=by
 rw [cC]
 constructor
 ·rintro ⟨a,xs,rfl,h1,h2⟩
  rw [cD.mp h2] at h1
  exact ⟨a,rfl,h1⟩
 ·rintro ⟨a,rfl,h⟩
  exact ⟨a,_,rfl,h,cD.mpr rfl⟩
theorem oU:Den K H (.list (ns.map .int)) v↔∃ a,v=.ref a/\SqL K H a (ns.map V.int):=by
 rw [cX]
 constructor
 ·rintro ⟨a,xs,rfl,h1,h2⟩
  rw [cD.mp h2] at h1
  exact ⟨a,rfl,h1⟩
 ·rintro ⟨a,rfl,h⟩
  exact ⟨a,_,rfl,h,cD.mpr rfl⟩
def iB:PyData->Kd
 | .none=>.non | .bool _=>.bl | .int _=>.int | .str _=>.str | .list _=>.lst | .tuple _=>.tup | .dict _=>.dct
theorem Den.kd {d:PyData} (h:Den K H d v):KdV K H v (iB d):=by
 cases d with
 | none=>rw [xA.mp h]; rfl
 | bool b=>rw [wZ.mp h]; rfl
 | int i=>rw [cK.mp h]; rfl
 | str x=>rw [aAZ.mp h]; rfl
 | list ds=>obtain ⟨a,xs,rfl,h1,_⟩:=cX.mp h; exact .inl ⟨rfl,xs,h1⟩
 | tuple ds=>obtain ⟨a,xs,rfl,h1,_⟩:=cC.mp h; exact .inr (.inl ⟨rfl,xs,h1⟩)
 | dict kvs=>obtain ⟨_,a,rfl,h1⟩:=aC3.mp h; exact .inr (.inr ⟨rfl,[],h1⟩)
section
variable {σ:St}
mutual
def cQ:PyData->Bool
 | .dict _=>false
 | .list ds=>gT ds
 | .tuple ds=>gT ds
 | _=>true
def gT:List PyData->Bool
 | []=>true
 | d::ds=>cQ d && gT ds
end
mutual
theorem Den.reads (I:Inv X pins σ H s):∀ (d:PyData) (v:V) (u:Value),cQ d=true->Den X.K H d v->bQ v u->∃ as,Reads s.heap u d as
 | .none,v,u,_,h,r=>by rw [xA.mp h] at r; cases r; exact ⟨_,.none⟩
 | .bool b,v,u,_,h,r=>by rw [wZ.mp h] at r; cases r; exact ⟨_,.bool b⟩
 | .int i,v,u,_,h,r=>by rw [cK.mp h] at r; obtain ⟨t,rfl⟩:=r; exact ⟨_,.int i t⟩
 | .str x,v,u,_,h,r=>by rw [aAZ.mp h] at r; obtain ⟨t,rfl⟩:=r; exact ⟨_,.str x t⟩
 | .list ds,v,u,hn,h,r=>by
  obtain ⟨a,xs,rfl,h1,h2⟩:=cX.mp h
  cases r
  obtain ⟨its,rv,⟨o,n,e,c,_,d⟩,_⟩:=I.list h1
  obtain ⟨as,ra⟩:=aT.reads I ds xs its (by unfold cQ at hn; exact hn) h2 rv
  exact ⟨_,.list e c d (by simpa using ra)⟩
 | .tuple ds,v,u,hn,h,r=>by
  obtain ⟨a,xs,rfl,h1,h2⟩:=cC.mp h
  cases r
  obtain ⟨its,rv,⟨o,e,c,n,d⟩,_⟩:=I.tuple h1
  obtain ⟨as,ra⟩:=aT.reads I ds xs its (by unfold cQ at hn; exact hn) h2 rv
  exact ⟨_,.tuple e c d (by simpa using ra)⟩
 | .dict kvs,v,u,hn,_,_=>by unfold cQ at hn; cases hn
theorem aT.reads (I:Inv X pins σ H s):∀ (ds:List PyData) (xs:List V) (us:List Value),gT ds=true->aT X.K H ds xs->bK xs us->∃ as,ReadsAll s.heap us ds as
 | [],xs,us,_,h,r=>by rw [aO.mp h] at r; cases r; exact ⟨_,.nil⟩
 | d::ds,xs,us,hn,h,r=>by
  obtain ⟨x,rr,rfl,h2,h3⟩:=aL.mp h
  unfold gT at hn
  rw [Jn] at hn
  cases r with
  | cons r1 r2 =>
   obtain ⟨as,ra⟩:=Den.reads I d x _ hn.1 h2 r1
   obtain ⟨bs,rb⟩:=aT.reads I ds rr _ hn.2 h3 r2
   exact ⟨_,.cons ra rb⟩
end
theorem tU (hg:X.A.guards=some []) (hu:X.A.units+64 < cLine):dM X (.builtin "repr") (λxs H Q=>∃ d a,xs = [.ref a]/\Den X.K H d (.ref a)/\cQ d=true/\d.hasDict=false/\d.showable=true/\d.depth<=60/\d.shown.length<=sizeLine/\Q (.str d.shown) H):=by
 intro pins s σ H xs us Q I r h
 obtain ⟨d,a,rfl,hd,h1,h2,h3,h4,h5,q⟩:=h
 obtain ⟨u,rfl,rx⟩:=fX r
 obtain ⟨as,rd⟩:=Den.reads I d _ _ h1 hd rx
 cases rx
 exact repr_of_reads' rd h3 (λz=>by rw [h2] at z; cases z) hg (by omega) (λ_ _ e=>e) (λh' u tk kp=>⟨.str d.shown,H,I.kept kp,⟨_,rfl⟩,q⟩) h5
theorem zW (hu:X.A.units+64 < cLine):OpR X (compareOp .Eq) (λx y H Q=>∃ d e,Den X.K H d x/\Den X.K H e y/\cQ d=true/\cQ e=true/\SeqAt.shaped d=true/\SeqAt.shaped e=true/\Q (.bl (PyData.eqv d e)) H):=by
 intro pins s σ H x y v u Q I rx ry h
 obtain ⟨d,e,hd,he,n1,n2,s1,s2,q⟩:=h
 obtain ⟨as,ra⟩:=Den.reads I d x v n1 hd rx
 obtain ⟨bs,rb⟩:=Den.reads I e y u n2 he ry
 exact eq_dataH ra rb s1 s2 hu ⟨.bl _,H,I,rfl,q⟩
theorem aGm (hu:X.A.units+64 < cLine):OpR X (compareOp .NotEq) (λx y H Q=>∃ d e,Den X.K H d x/\Den X.K H e y/\cQ d=true/\cQ e=true/\SeqAt.shaped d=true/\SeqAt.shaped e=true/\Q (.bl (!PyData.eqv d e)) H):=by
 intro pins s σ H x y v u Q I rx ry h
 obtain ⟨d,e,hd,he,n1,n2,s1,s2,q⟩:=h
 obtain ⟨as,ra⟩:=Den.reads I d x v n1 hd rx
 obtain ⟨bs,rb⟩:=Den.reads I e y u n2 he ry
 exact ne_dataH ra rb s1 s2 hu ⟨.bl _,H,I,rfl,q⟩
theorem aBX:MtR X "tuple.count" (λx vs H Q=>∃ (a:Addr) (ns:List Int) (n:Int),x=.ref a/\vs = [.int n]/\SqT X.K H a (ns.map V.int)/\Q (.int (ns.count n:Nat)) H):=by
 intro pins s σ H x v vs us Q I rx r h
 obtain ⟨a,ns,n,rfl,rfl,ha,q⟩:=h
 obtain ⟨u,rfl,t,rfl⟩:=fX r
 cases rx
 obtain ⟨its,rv,⟨⟨cls,dd,data,sl⟩,ho,hc,k,hd⟩,hzz⟩:=I.tuple ha
 simp only at hc hd
 subst hc hd
 have hi:IntsAre its ns:=gM rv
 refine Va Iy ⟨_,ho,rfl⟩ PySem.F.entry_tuple_count (PySem.F.args_tuple_count_2 _ _) (SeqAt.tuple_countAt a its.toArray k dd sl (.int n t) (isInt n)) ⟨ho,λy hy=>(eq_isInt n t hi y (by simpa using hy)).at _ _,?_⟩
 have e:(its.toArray.toList.countP (isInt n))=ns.count n:=by
  simp only [Yw]
  clear q r ha rv ho hzz
  induction hi with
  | nil=>rfl
  | cons m t' _ ih =>
   rw [List.countP_cons,Zc,ih]
   rfl
 rw [e]
 exact ⟨.int _,H,I.tok _,⟨_,rfl⟩,q⟩
end
theorem qZ {x:Value} {Q:List Value->Shared->Prop}
  (h:∀ R:Result->Shared->Prop,(∀ (s':Shared) (acc:Array Value) (c:Nat),s'.heap.get? s.heap.objs.size=some { cls:=.type "list",data:=.seq acc c }->Q acc.toList s'->R (.ok (.ret (.ref s.heap.objs.size))) s') ->
   wpAny (model prog w) A.in1 (Builtin.List.listExtendWith (.ref s.heap.objs.size) x (.ref s.heap.objs.size))
    (λfin s'=>match fin with | .done f=>R (.ok f) s' | .again c'=>c'.quiet=true/\codeAny (model prog w) A c' R s') (λe s'=>R (.error e) s') { s with heap:=s.heap.push { cls:=.type "list",data:=.seq ([]:List Value).toArray } }) :
  wpAny (model prog w) A (collect x) Q E s:=by
 unfold collect
 refine Ra (Mv (Ta PySem.F.entry_proto_collect ?_))
 rw [Around.under_plainId PySem.F.plain_proto_collect _]
 show wpAny _ A.in1 (newList [] >>= λl=>again (.builtin "list.__iadd__" ⟨[l,x],[]⟩)) _ _ s
 refine Ra (Rk ?_)
 refine Rb ⟨Tt Mc _,Ta PySem.F.entry_list_iadd ?_⟩
 rw [Around.under_plainId Mc _]
 show wpAny _ A.in1 (Builtin.List.listExtendWith (.ref s.heap.objs.size) x (.ref s.heap.objs.size)) _ _ _
 have fin':∀ (s':Shared) (acc:Array Value) (c:Nat),s'.heap.get? s.heap.objs.size=some { cls:=.type "list",data:=.seq acc c }->Q acc.toList s'->wpAny (model prog w) A (match Value.ref s.heap.objs.size with
   | Value.ref a => do
     match (<- load a).data with
      | Data.seq xs _=>pure xs.toList
      | _=>unsupported "internal:collect"
   | _=>unsupported "internal:collect") Q E s':=by
  intro s' acc c e q
  show wpAny _ A (load s.heap.objs.size >>= _) _ _ _
  exact Ra (wpAny_load e (Rb q))
 refine Rn (h (λr s'=>r=.ok (.ret (.ref s.heap.objs.size))/\∃ acc c,s'.heap.get? s.heap.objs.size=some { cls:=.type "list",data:=.seq acc c }/\Q acc.toList s') (λs' acc c e q=>⟨rfl,acc,c,e,q⟩)) (λfin s' h=>?_) (λe s' h=>?_)
 ·cases fin with
  | done f =>
   obtain ⟨e,acc,c,e2,q⟩:=h
   cases e
   exact fin' s' acc c e2 q
  | again c'=>exact ⟨h.1,Uo h.2 λr s'' hr=>by obtain ⟨rfl,acc,c,e2,q⟩:=hr; exact fin' s'' acc c e2 q⟩
 ·exact absurd h.1 (by simp)
theorem sT {r:Addr} {a b:Int} {t u v:Tok} {n:Nat} {Q:List Value->Shared->Prop} (hh:A.handled=none) (hr:IsRange s.heap r a b 1 t u v) (hsmall:Builtin.Range.small a b 1=true)
  (hn:Builtin.Range.rangeSize a b 1=n) (hlen:n<=2^24)
  (h:∀ h' tk vs,(∀ b o,s.heap.get? b=some o->h'.get? b=some o)->IntsAre vs ((List.range n).map λ(i:Nat)=>a+(i:Int))->Q vs { s with heap:=h',toks:=tk }):wpAny (model prog w) A (collect (.ref r)) Q E s:=by
 refine qZ λR hR=>?_
 have hr':IsRange (s.heap.push { cls:=.type "list",data:=.seq ([]:List Value).toArray }) r a b 1 t u v:=Qa _ hr
 refine wpAny_extend_range (s:={ s with heap:=s.heap.push { cls:=.type "list",data:=.seq ([]:List Value).toArray } }) hh hr' hsmall hn hlen s.heap.objs.size (.ref s.heap.objs.size) 0 (Qg _ rfl) λh' tk acc' c' kp e it=>?_
 refine hR { s with heap:=h',toks:=tk } acc' c' e (h h' tk acc'.toList (λb o q=>kp b o (Qz (Qm q)) (Qa _ q)) ?_)
 obtain ⟨hs,hi⟩:=it
 -- the items one by one
 have key:∀ (k:Nat) (l:List Value) (m:Nat),l.length=k->(∀ (j:Nat) (v:Value),l[j]?=some v->∃ t,v=Value.int (a+((m+j:Nat):Int)) t)->IntsAre l ((List.range' m k).map λ(i:Nat)=>a+(i:Int)):=by
  intro k
  induction k with
  | zero=>intro l m hl _; rw [Jp.mp hl]; exact .nil
  | succ k ih =>
   intro l m hl hv
   cases l with
   | nil=>simp at hl
   | cons v l =>
    obtain ⟨t,e⟩:=hv 0 v rfl
    rw [List.range'_succ,Qy,e]
    exact .cons _ t (ih l (m+1) (by simpa using hl) λj v' hj=>by
     obtain ⟨t',e'⟩:=hv (j+1) v' (by simpa using hj)
     exact ⟨t',by rw [e',show m+(j+1)=m+1+j by omega]⟩)
 have:=key n acc'.toList 0 (by rw [Array.length_toList,hs]) λj v hj=>by
  obtain ⟨t,e⟩:=hi j v (by simpa using hj)
  exact ⟨t,by rw [e]; first | (congr 1; done) | (congr 1; omega)⟩
 rwa [<- List.range_eq_range'] at this
theorem tV {x:Value} (h64:ns.length < 64) (hc:∀ Q':List Value->Shared->Prop,(∀ h' tk vs,(∀ b o,s.heap.get? b=some o->h'.get? b=some o)->IntsAre vs ns->Q' vs { s with heap:=h',toks:=tk })->wpAny (model prog w) A.in1 (collect x) Q' E s) (h:∀ (h1 h':Heap) tk out ns',(∀ b o,s.heap.get? b=some o->h1.get? b=some o)->(∀ b o,h1.get? b=some o->h'.get? b=some o)->h'.PlainList h1.objs.size out->IntsAre out.toList ns'->ns'.Perm ns->ns'.Pairwise (·<=·)->Q (.ref h1.objs.size) { s with heap:=h',toks:=tk }) :
  wpAny (model prog w) A (call (.builtin "sorted") [x]) Q E s:=by
 refine Calls.call_function_entry kind_sorted plain_sorted entry_sorted (args_sorted1 _) ?_
 unfold Builtin.«sorted»
 refine Ra (m:=checkCount "sorted" 1 1 _) (Rb ?_)
 refine Ra (hc _ λh1 tk vs kp hi=>?_)
 have hlen:=hi.length
 refine Ra (wpAny_newList ?_ (by rw [Rf]; omega))
 have hoL:(h1.push (seqObj "list" vs.toArray 0)).get? h1.objs.size=some (seqObj "list" vs.toArray 0):=Qg _ rfl
 refine Ra (Rl (Rj slot_list_sort ⟨_,hoL,rfl⟩ RaR (list_sort_tree hoL hi (by omega) λout ns' a1 a2 a3=>⟨_,rfl,?_⟩) (args_list_sort _)))
 refine Rb ⟨_,rfl,?_⟩
 obtain ⟨e,he⟩:=sortedHeap_at (out:=out) hoL
 refine h h1 _ tk out ns' kp (λb o q=>?_) ⟨e,he⟩ a1 a2 a3
 rw [sortedHeap_old (Qz (Qm q)) (by rw [size_push']; exact Jx (Qm q))]
 exact Qa _ q
theorem sU {x:Value} {b:Bool} (h64:ns.length < 64) (hc:∀ Q':List Value->Shared->Prop,(∀ h' tk vs,(∀ b o,s.heap.get? b=some o->h'.get? b=some o)->IntsAre vs ns->Q' vs { s with heap:=h',toks:=tk })->wpAny (model prog w) A.in1 (collect x) Q' E s) (h:∀ (h1 h':Heap) tk out ns',(∀ b o,s.heap.get? b=some o->h1.get? b=some o)->(∀ b o,h1.get? b=some o->h'.get? b=some o)->h'.PlainList h1.objs.size out->IntsAre out.toList ns'->ns'.Perm ns->Ordered b ns'->Q (.ref h1.objs.size) { s with heap:=h',toks:=tk }) :
  wpAny (model prog w) A (call (.builtin "sorted") [x] [(Str.ofString "reverse",.bool b)]) Q E s:=by
 refine call_function_entry_kw kind_sorted plain_sorted entry_sorted (args_sorted_rev _ _) ?_
 unfold Builtin.«sorted»
 refine Ra (m:=checkCount "sorted" 1 1 _) (Rb ?_)
 refine Ra (hc _ λh1 tk vs kp hi=>?_)
 have hlen:=hi.length
 refine Ra (wpAny_newList ?_ (by rw [Rf]; omega))
 have hoL:(h1.push (seqObj "list" vs.toArray 0)).get? h1.objs.size=some (seqObj "list" vs.toArray 0):=Qg _ rfl
 refine Ra (Rl (wpAny_call_entry_kw slot_list_sort ⟨_,hoL,rfl⟩ RaR (list_sort_tree_rev hoL hi (by omega) λout ns' a1 a2 a3=>⟨_,rfl,?_⟩) (args_list_sort_rev _ _)))
 refine Rb ⟨_,rfl,?_⟩
 obtain ⟨e,he⟩:=sortedHeap_at (out:=out) hoL
 refine h h1 _ tk out ns' kp (λb o q=>?_) ⟨e,he⟩ a1 a2 a3
 rw [sortedHeap_old (Qz (Qm q)) (by rw [size_push']; exact Jx (Qm q))]
 exact Qa _ q
theorem kY (r:Addr) (a b:Int) (t u v:Tok) (n:Nat) (hsmall:Builtin.Range.small a b 1=true) (hn:Builtin.Range.rangeSize a b 1=n) (hlen:n<=2^24) :
  Meets (Builtin.«tuple.__new__» ⟨[.type "tuple",.ref r],[]⟩)
   (λA R s=>A.handled=none/\IsRange s.heap r a b 1 t u v/\∀ (h':Heap) tk (vs:List Value),(∀ b o',s.heap.get? b=some o'->h'.get? b=some o')->IntsAre vs ((List.range n).map λ(i:Nat)=>a+(i:Int)) ->
    R (.ok (.ret (.ref h'.objs.size))) { s with heap:=h'.push { cls:=.type "tuple",data:=.seq vs.toArray },toks:=tk }) :=
 .of_wp λprog w A R s h=>by
  obtain ⟨hp,g,d,tk,os⟩:=s; obtain ⟨hh,ht,h⟩:=h
  have hsub:=sub_tuple_self
  have hinit:=init_tuple_lookup
  have hmh:=madeHere_tuple
  have hT:Shared.TypeIs ⟨hp,g,d,tk,os⟩ (.ref r) "range" := ⟨_,ht,rfl⟩
  wp_walk using Rr ht,Vh hT,sT (A:=A.in1) (s:=⟨hp,g,d,tk,os⟩) hh ht hsmall hn hlen
  intro h' tk' vs hk hi
  show wpAny _ _ (Builtin.Tuple.tupleExact vs.toArray >>= λv=>ret v) _ _ _
  unfold Builtin.Tuple.tupleExact
  have hl:=hi.length
  rw [Qb,Js] at hl
  refine Ra (Rk ?_ (by show vs.toArray.size<=sizeLine; rw [Ql,Rf]; omega))
  refine Rb ⟨_,rfl,?_⟩
  exact h h' tk' vs hk hi
theorem xB:dM X (.type "range") (λxs H Q=>∃ j,xs = [.int j]/\∀ p,H p=none->Q (.ref p) (upd H p (.rng 0 j))):=by
 intro pins s σ H xs us Q I r h
 obtain ⟨j,rfl,q⟩:=h
 obtain ⟨u,rfl,t,rfl⟩:=fX r
 refine call_range_1 ⟨.ref s.heap.objs.size,_,I.laid (λb o e=>Qa _ e) (Qh _) ?_,rfl,q _ (I.hok.fresh (Qh _))⟩
 exact ⟨_,_,_,Qg _ rfl⟩
def bZ (n:Nat):List Int:=(List.range n).map λ(i:Nat)=>(i:Int)
theorem rA (hc:X.calm=true):dM X (.type "tuple") (λxs H Q=>∃ (a:Addr) (n:Nat),xs = [.ref a]/\H a=some (.rng 0 n)/\n<=1000/\∀ p H',aD H H'->SqT X.K H' p ((bZ n).map V.int)->Q (.ref p) H'):=by
 intro pins s σ H xs us Q I r h
 obtain ⟨a,n,rfl,ha,hn,q⟩:=h
 obtain ⟨u,rfl,rx⟩:=fX r
 cases rx
 obtain ⟨t,u,v,e⟩:=I.hok a _ ha
 have hsz:Builtin.Range.rangeSize 0 (n:Int) 1=(n:Int):=by rw [rangeSize_one]; split <;> omega
 have hsm:Builtin.Range.small 0 (n:Int) 1=true:=small_one (by omega) (by omega) (by omega) (by omega)
 have hn24:n<=2^24:=Je hn (by decide)
 refine Vr PySem.F.called_tuple (by decide) (PySem.F.typeCall_tuple_1 _) (PySem.F.newCall_tuple_1 _) (λobj=>Ve obj _) PySem.F.entry_tuple_new
  (kY a 0 n t u v n hsm hsz hn24) ⟨I.ok.hd hc,e,λh' tk vs kp hi=>⟨⟨_,Qg _ rfl,rfl⟩,?_⟩⟩
 have I1:Inv X pins σ H { s with heap:=h',toks:=tk }:=I.kept kp
 have e0:((List.range n).map λ(i:Nat)=>(0:Int)+(i:Int))=bZ n:=by unfold bZ; exact Xk λi _=>Zd _
 rw [e0] at hi
 have hv:=jP hi
 have hl:(bZ n).length=n:=by unfold bZ; simp
 have hf:=I1.hok.fresh (Qh _)
 have I2:Inv X pins σ (upd H h'.objs.size (.tup ((bZ n).map V.int))) { s with heap:=h'.push { cls:=.type "tuple",data:=.seq vs.toArray },toks:=tk } :=
  I1.laid (t':=tk) (λb o e=>Qa _ e) (Qh _) (show bN X.prog X.w _ _ _ (.tup _) from ⟨by rw [Qb,hl,Rf]; omega,vs,0,hv,Qg _ rfl⟩)
 exact ⟨.ref h'.objs.size,_,I2,rfl,q _ _ (aD.new hf) (SqT.of aB)⟩
theorem xC:dM X (.builtin "sorted") (λxs H Q=>∃ (a:Addr) (ns:List Int),xs = [.ref a]/\(SqL X.K H a (ns.map V.int)∨SqT X.K H a (ns.map V.int))/\ns.length < 64 /\
  ∀ (p:Addr) (ms:List Int),H p=none->ms.Perm ns->ms.Pairwise (·<=·)->Q (.ref p) (upd H p (.lst (ms.map V.int)))):=by
 intro pins s σ H xs us Q I r h
 obtain ⟨a,ns,rfl,ha,h64,q⟩:=h
 obtain ⟨u,rfl,rx⟩:=fX r
 cases rx
 refine tV h64 (λQ' hQ'=>?_) λh1 h' tk out ns' k1 k2 pl hi hp ho=>?_
 ·rcases ha with ha | ha
  ·obtain ⟨its,rv,⟨o,n,e,c,_,d⟩,hz⟩:=I.list ha
   have hl:=rv.length
   exact Vk a (.inl rfl) e c d (λh' kp=>hQ' h' s.toks _ kp (by simpa using gM rv)) (by rw [Ql,<- hl]; exact hz)
  ·obtain ⟨its,rv,⟨o,e,c,n,d⟩,hz⟩:=I.tuple ha
   have hl:=rv.length
   exact Vk a (.inr rfl) e c d (λh' kp=>hQ' h' s.toks _ kp (by simpa using gM rv)) (by rw [Ql,<- hl]; exact hz)
 ·have I1:Inv X pins σ H { s with heap:=h1,toks:=tk }:=I.kept k1
  have hf:=I1.hok.fresh (Qh _)
  have hl:=hp.length_eq
  obtain ⟨n,e⟩:=pl
  have I2:Inv X pins σ (upd H h1.objs.size (.lst (ns'.map V.int))) { s with heap:=h',toks:=tk } :=
   I1.laid (t':=tk) k2 (Qh _) (show bN X.prog X.w _ _ _ (.lst _) from ⟨by rw [Qb,hl,Rf]; omega,out.toList,n,jP hi,by simpa using e⟩)
  exact ⟨.ref h1.objs.size,_,I2,rfl,q _ ns' hf hp ho⟩
theorem jJ {x:Expr} {tx:TE} {cj cpos} (hg:Gl X "sorted") (hm:X.mg "sorted" = none) (hx:PE X x tx) (he:starEach [x] X.env = [(false,eval x X.env)]:=by rfl) :
  PE X (.Call (.Name "sorted" p) [x] [⟨some "reverse",.Constant (.bool true) cj cpos,kpos⟩] pos) (λσ H Q=>tx σ H λv H1=>∃ (a:Addr) (ns:List Int),v=.ref a/\(SqL X.K H1 a (ns.map V.int)∨SqT X.K H1 a (ns.map V.int))/\ns.length < 64 /\
   ∀ (p:Addr) (ms:List Int),H1 p=none->ms.Perm ns->ms.Pairwise (·≥·)->Q (.ref p) (upd H1 p (.lst (ms.map V.int)))):=by
 intro pins s σ H Q I h
 refine Uc (iU (u:=.builtin "sorted") I hg hm (by decide +kernel) ?_)
 have hpa:PA X [x] (tN tx aBR):=aA hx aC he
 refine callWith_kw (thn (hpa pos pins s σ H (λvs H1=>match vs with
   | [v]=>∃ (a:Addr) (ns:List Int),v=.ref a/\(SqL X.K H1 a (ns.map V.int)∨SqT X.K H1 a (ns.map V.int))/\ns.length < 64/\∀ (p:Addr) (ms:List Int),H1 p=none->ms.Perm ns->ms.Pairwise (·≥·)->Q (.ref p) (upd H1 p (.lst (ms.map V.int)))
   | _=>False) I h) λus s1 ⟨vs,H1,I1,r1,q1⟩=>?_) (by rw [he]; rfl) (by rw [he]; rfl)
 have hk:PK X [⟨some "reverse",.Constant (.bool true) cj cpos,kpos⟩] (tN (tC (.bl true)) aBR):=aEE iE aGc
 refine thn (hk pos pins s1 σ H1 (λzs H2=>zs = [.bl true]/\H2=H1) I1 ⟨rfl,rfl⟩) λws s2 hx9=>?_
 obtain ⟨zs,H2,I2,rz,ez,eH⟩:=hx9
 subst ez eH
 obtain ⟨w1,rfl,rw1⟩:=fX rz
 cases rw1
 match vs,r1,q1 with
 | [v],r1,q1 =>
  obtain ⟨a,ns,rfl,ha,h64,q⟩:=q1
  obtain ⟨u,rfl,rx⟩:=fX r1
  cases rx
  show wpAny (model X.prog X.w) X.A (call (.builtin "sorted") [.ref a] [(Str.ofString "reverse",.bool true)]) _ _ _
  refine sU h64 (λQ' hQ'=>?_) λh1 h' tk out ns' k1 k2 pl hi hp ho=>?_
  ·rcases ha with ha | ha
   ·obtain ⟨its,rv,⟨o,n,e,c,_,d⟩,hz⟩:=I2.list ha
    have hl:=rv.length
    exact Vk a (.inl rfl) e c d (λh' kp=>hQ' h' s2.toks _ kp (by simpa using gM rv)) (by rw [Ql,<- hl]; exact hz)
   ·obtain ⟨its,rv,⟨o,e,c,n,d⟩,hz⟩:=I2.tuple ha
    have hl:=rv.length
    exact Vk a (.inr rfl) e c d (λh' kp=>hQ' h' s2.toks _ kp (by simpa using gM rv)) (by rw [Ql,<- hl]; exact hz)
  ·have J1:Inv X pins σ H2 { s2 with heap:=h1,toks:=tk }:=I2.kept k1
   have hf:=J1.hok.fresh (Qh _)
   have hl:=hp.length_eq
   obtain ⟨n,e⟩:=pl
   have J2:Inv X pins σ (upd H2 h1.objs.size (.lst (ns'.map V.int))) { s2 with heap:=h',toks:=tk } :=
    J1.laid (t':=tk) k2 (Qh _) (show bN X.prog X.w _ _ _ (.lst _) from ⟨by rw [Qb,hl,Rf]; omega,out.toList,n,jP hi,by simpa using e⟩)
   exact ⟨.ref h1.objs.size,_,J2,rfl,q _ ns' hf hp ho⟩
 | [],_,q1=>exact q1.elim
 | _::_::_,_,q1=>exact q1.elim
def tab (L:Bool) (ns:List Nat):SetTable:={ mask:=7,place:=ns.toArray,dummies:=#[],finger:=0,led:=L,moves:=0,plain:=true }
def aHd (l:List (Nat×Tok)):Array (Int×Value):=(l.map λp=>((p.1:Int),Value.int (p.1:Int) p.2)).toArray
theorem ft1:∀ (L:Bool) (k:Fin 8),(tab L [k.val]).fits 1=true:=by decide
theorem ft2:∀ (L:Bool) (k j:Fin 8),(tab L [k.val,j.val]).fits 2=true:=by decide +kernel
def SX (L:Bool) (h:Heap) (a:Addr) (l:List (Nat×Tok)):Prop:=∃ o ep,h.get? a=some o/\o.ExactSet/\o.data=.set (aHd l) ep (tab L (l.map (·.1)))
abbrev Led (w:World):Bool:=!(w.params.followText "set-order")
theorem lG (a:Value) {Q₁:Value->Shared->Prop}
  (h:Q₁ (.ref s.heap.objs.size) { s with heap:=s.heap.push { cls:=.type "set",dict:=none,data:=.set #[] 0 (.fresh 0 0 (Led w)) } }) :
  codeAny (model prog w) A (.call (.builtin "set.__new__") ⟨[.type "set",a],[]⟩) (wants Q₁ E) s:=by
 refine Vu ?_
 show wpAny _ A.in1 (do checkBuiltinCall "set.__new__" ⟨[.type "set",a],[]⟩; again (.builtin "set.__new__" ⟨[.type "set",a],[]⟩)) _ _ s
 refine Ra (Vl (PySem.F.newCall_set_1 a) (Rb ⟨Tt Mm _,Ta PySem.F.entry_set_new ?_⟩))
 rw [Around.under_plainId Mm _]
 unfold Builtin.«set.__new__» Builtin.Frozenset.newClass
 have hsub:=sub_set_self
 obtain ⟨hp,g,d,tk,os⟩:=s
 dsimp only
 wp_walk
 refine Vb (Rb ?_)
 dsimp only
 simp only [newObj]
 refine Ra (Rar (Rb ?_))
 exact Rb h
theorem xD {S:Addr} {wr:List Addr} {n i:Nat} {P:Nat->Value->Prop} {St:Nat->Heap->Prop} (W:Walks prog w A.in1 I fp wr n P St) (hi:i < n) (st:St i s.heap) (h:∀ v h' tk,P i v->St (i+1) h'->(∀ b o,b∉wr->s.heap.get? b=some o->h'.get? b=some o) ->
   wpAny (model prog w) A.in1 (setAdd S v) (λ_ s2=>codeAny (model prog w) A (.builtin "set.update.loop" ⟨[.ref S,.ref I],[]⟩) R s2) (λe s'=>R (.error e) s') { s with heap:=h',toks:=tk }) :
  codeAny (model prog w) A (.builtin "set.update.loop" ⟨[.ref S,.ref I],[]⟩) R s:=by
 refine Ta PyProof.Rows.F.entry_set_update_loop ?_
 rw [Around.under_plainId PyProof.Rows.F.plain_set_update_loop _]
 show wpAny _ A.in1 (pyNext (.ref I) >>= _) _ _ s
 refine Ra (W.item i s _ _ hi st λv h' tk hP hst' hk=>?_)
 show wpAny _ A.in1 (holding [v] (setAdd S v) >>= _) _ _ _
 refine Ra (Rl (Rn (h v h' tk hP hst' hk) (λ_ s2 q=>?_) λ_ _ e=>e))
 exact Rb ⟨Tt PyProof.Rows.F.plain_set_update_loop _,q⟩
theorem xE {S:Addr} {wr:List Addr} {n:Nat} {P:Nat->Value->Prop} {St:Nat->Heap->Prop} (W:Walks prog w A.in1 I fp wr n P St) (st:St n s.heap) (h:∀ h' tk,(∀ b o,b∉wr->s.heap.get? b=some o->h'.get? b=some o)->R (.ok (.ret .none)) { s with heap:=h',toks:=tk }) :
  codeAny (model prog w) A (.builtin "set.update.loop" ⟨[.ref S,.ref I],[]⟩) R s:=by
 refine Ta PyProof.Rows.F.entry_set_update_loop ?_
 rw [Around.under_plainId PyProof.Rows.F.plain_set_update_loop _]
 show wpAny _ A.in1 (pyNext (.ref I) >>= _) _ _ s
 refine Ra (W.done s _ _ st λh' tk hk=>?_)
 show wpAny _ A.in1 (ret Value.none) _ _ _
 exact Rb (h h' tk hk)
def two (a b:Nat) (t u:Tok):List (Nat×Tok):=if a=b then [(a,t)] else if a < b then [(a,t),(b,u)] else [(b,u),(a,t)]
theorem SX.keep {l:List (Nat×Tok)} (x:SX L h a l) (k:∀ o,h.get? a=some o->h'.get? a=some o):SX L h' a l:=by
 obtain ⟨o,ep,e,r⟩:=x
 exact ⟨o,ep,k o e,r⟩
theorem bS:Slot "set_iterator" "__next__" "set_iterator.__next__" :=
 .of (owner := "set_iterator") (n := "__next__") (by rw [RaS,Rak]; kernel_rfl) (by decide +kernel) (by decide +kernel) (by decide +kernel)
  (by first | exact .inl (by decide +kernel) | exact .inr (by decide +kernel)) (by rw [Mw]; kernel_rfl)
theorem fY:entryFor table "set_iterator.__next__" = some Builtin.«set_iterator.__next__»:=entryFor_of_tree (by kernel_rfl)
theorem eX (a:Value):argsOk "set_iterator.__next__" ⟨[a],[]⟩:=by
 unfold argsOk; kernel_rfl
theorem gD:Slot "set_iterator" "__iter__" "set_iterator.__iter__" :=
 .of (owner := "set_iterator") (n := "__iter__") (by rw [RaS,Rak]; kernel_rfl) (by decide +kernel) (by decide +kernel) (by decide +kernel)
  (by first | exact .inl (by decide +kernel) | exact .inr (by decide +kernel)) (by rw [Mw]; kernel_rfl)
theorem jR:entryFor table "set_iterator.__iter__" = some Builtin.«dict_keyiterator.__iter__» :=
 entryFor_alias (id' := "dict_keyiterator.__iter__") (by kernel_rfl) rfl (by decide +kernel) (by kernel_rfl)
theorem jK (a:Value):argsOk "set_iterator.__iter__" ⟨[a],[]⟩:=by
 unfold argsOk; kernel_rfl
theorem rB:entryFor table "set.__iter__" = some Builtin.«frozenset.__iter__» :=
 entryFor_alias (id' := "frozenset.__iter__") (by kernel_rfl) rfl (by decide +kernel) (by kernel_rfl)
def Okl (l:List (Nat×Tok)):Prop:=(∃ p,l = [p]/\p.1 < 8)∨∃ p q,l = [p,q]/\p.1 < q.1/\q.1 < 8
def aHe (ns:List Nat) (i:Nat):Nat:=if i=0 then 0 else (ns[i - 1]?).getD 0+1
theorem bl2:∀ (k j:Fin 8) (i:Fin 3),k < j->SetTable.below #[k.val,j.val] (aHe [k.val,j.val] i.val)=i.val:=by decide +kernel
theorem Okl.fits {l:List (Nat×Tok)} (h:Okl l):(tab L (l.map (·.1))).fits (aHd l).size=true:=by
 rcases h with ⟨p,rfl,h8⟩ | ⟨p,q,rfl,h1,h8⟩
 ·exact ft1 L ⟨p.1,h8⟩
 ·exact ft2 L ⟨p.1,by omega⟩ ⟨q.1,h8⟩
section
variable {S:Addr} {l:List (Nat×Tok)}
theorem oV {Q:Bool->Shared->Prop} (h:Q (w.params.followText "set-order") s):wpAny (model prog w) A setsByText Q E s:=Ra (Vb (Rb h))
end
def aHT (w:World) (p:Addr) (a b:Nat):HO:=.ext λh=>∃ t u,SX (Led w) h p (two a b t u)
structure Sub (prog:Program) (w:World) (i l:Addr) (n:Nat) (P:Nat->Value->Prop) (st:Nat->Heap->Prop):Prop where
 keep:∀ k h h',st k h->(∀ b,b=i∨b=l->∀ o,h.get? b=some o->h'.get? b=some o)->st k h'
 obj:∀ k h,st k h->(∃ o,h.get? i=some o/\∀ v,o.data≠.cell v)/\∃ o,h.get? l=some o
 item:∀ (A:Around) k (s:Shared) (Q:Value->Shared->Prop) (E:Value->Shared->Prop),k < n->st k s.heap->(∀ v h',P k v->st (k+1) h'->Heap.SameBut i s.heap h'->Q v { s with heap:=h' })->wpAny (model prog w) A (Builtin.SmallTypes.nextOf (.ref i)) Q E s
 done:∀ (A:Around) (s:Shared) (Q:Value->Shared->Prop) (E:Value->Shared->Prop),A.handled=none->st n s.heap->(∀ h' e,Heap.ExtBut i s.heap h'->(∃ o,h'.get? e=some o/\o.cls=.type "StopIteration")->E (.ref e) { s with heap:=h' }) ->
  wpAny (model prog w) A (Builtin.SmallTypes.nextOf (.ref i)) Q E s
theorem aC4 (prog:Program) (w:World) (i l:Addr) (items:Array Value) (hne:l≠i):Sub prog w i l items.size (λk v=>items[k]?=some v) (λk h=>h.IsListIter i l k/\h.IsList l items) where
 keep:=λk h h' st kp=>⟨st.1.at λo e=>kp i (.inl rfl) o e,st.2.at λo e=>kp l (.inr rfl) o e⟩
 obj:=λk h st=>by
  obtain ⟨⟨o,e,_,d⟩,⟨o2,e2,_⟩⟩:=st
  exact ⟨⟨o,e,λv z=>by rw [d] at z; cases z⟩,o2,e2⟩
 item:=λA k s Q E hk st hQ=>wpAny_nextOf_list_item st.1 st.2 (Array.getElem?_eq_getElem hk) λh' a b=>hQ _ h' (Array.getElem?_eq_getElem hk) ⟨a,st.2.at λo e=>b.extBut l o hne e⟩ b
 done:=λA s Q E hh st hE=>wpAny_nextOf_list_end hh st.1 st.2 (Array.getElem?_eq_none (Qh _)) hE
theorem nI {t:Addr} {i:Nat} {x:Value} (hit:s.heap.IsTupleIter it t i) (ht:s.heap.IsTuple t items) (hx:items[i]?=some x) (hQ:∀ h',h'.IsTupleIter it t (i+1)->Heap.SameBut it s.heap h'->Q x { s with heap:=h' }):wpAny (model prog w) A (Builtin.SmallTypes.nextOf (.ref it)) Q E s:=by
 obtain ⟨o,ho,hc,hd⟩:=id hit
 obtain ⟨ol,hol,_,nl,hdl⟩:=ht
 have hT:=hit.typeIs
 unfold Builtin.SmallTypes.nextOf
 refine Ra (Rh (name:=Str.ofString "__next__") hT Tj (Rj Tj hT Vv ?_ (Vs _)))
 refine Ra (m:=field (.ref it) 0) (Ri ho hd (x:=.ref t) rfl ?_)
 have hno:¬ ((Value.ref t==Value.none)=true):=Qr
 show wpAny _ _ (if (Value.ref t==Value.none)=true then _ else _) _ _ s
 rw [if_neg hno]
 refine Ra (m:=field (.ref it) 1) (Ri ho hd (x:=.int i 0) rfl ?_)
 refine Ra (m:=seqItems? (.ref t)) (Ro hol hdl ?_)
 simp only [Jj,hx]
 refine Ra (Uw ho hd (by simp) (Rb ⟨x,rfl,Rb (hQ _ ?_ (Heap.SameBut.update ..))⟩))
 refine ⟨_,Xc _ ho (Obj.isFreed_of_fields (Obj.data_mapFields hd _)),(Obj.cls_mapFields ..).trans hc,?_⟩
 rw [Obj.data_mapFields hd]
 simp [rawInt]
theorem oW {t:Addr} {i:Nat} (hh:A.handled=none) (hit:s.heap.IsTupleIter it t i) (ht:s.heap.IsTuple t items) (hx:items[i]?=none) (hE:∀ h' e,Heap.ExtBut it s.heap h'->(∃ o,h'.get? e=some o/\o.cls=.type "StopIteration")->E (.ref e) { s with heap:=h' }):wpAny (model prog w) A (Builtin.SmallTypes.nextOf (.ref it)) Q E s:=by
 obtain ⟨o,ho,hc,hd⟩:=id hit
 obtain ⟨ol,hol,_,nl,hdl⟩:=ht
 have hT:=hit.typeIs
 unfold Builtin.SmallTypes.nextOf
 refine Ra (Rh (name:=Str.ofString "__next__") hT Tj (Rj Tj hT Vv ?_ (Vs _)))
 refine Ra (m:=field (.ref it) 0) (Ri ho hd (x:=.ref t) rfl ?_)
 have hno:¬ ((Value.ref t==Value.none)=true):=Qr
 show wpAny _ _ (if (Value.ref t==Value.none)=true then _ else _) _ _ s
 rw [if_neg hno]
 refine Ra (m:=field (.ref it) 1) (Ri ho hd (x:=.int i 0) rfl ?_)
 refine Ra (m:=seqItems? (.ref t)) (Ro hol hdl ?_)
 simp only [Jj,hx]
 refine Ra (Tu (Ra (Uw ho hd (by simp) ?_)))
 refine Ra (m:=newExc (.type "StopIteration") []) ?_
 simp only [newExc,newTuple]
 refine Ra (Rk ?_ (by size_fits))
 refine Ra (m:=firstArgMember _ _) (Vl (a:=Value.none) (by first | rfl | (simp only [firstArgMember]; rfl)) ?_)
 refine Rk ?_ (by size_fits)
 simp only [raiseNew]
 refine Ra (Ih ?_)
 first | rw [show A.in1.handled=none from hh] | rw [hh]
 refine Ra (Rb (Ml ?_))
 exact hE _ _ (((Heap.SameBut.update ..).extBut.push _).push _) ⟨_,Qg _ rfl,rfl⟩
theorem aBY (prog:Program) (w:World) (i l:Addr) (items:Array Value) (hne:l≠i):Sub prog w i l items.size (λk v=>items[k]?=some v) (λk h=>h.IsTupleIter i l k/\h.IsTuple l items) where
 keep:=λk h h' st kp=>⟨st.1.at λo e=>kp i (.inl rfl) o e,by obtain ⟨o,e,r⟩:=st.2; exact ⟨o,kp l (.inr rfl) o e,r⟩⟩
 obj:=λk h st=>by
  obtain ⟨⟨o,e,_,d⟩,⟨o2,e2,_⟩⟩:=st
  exact ⟨⟨o,e,λv z=>by rw [d] at z; cases z⟩,o2,e2⟩
 item:=λA k s Q E hk st hQ=>nI st.1 st.2 (Array.getElem?_eq_getElem hk) λh' a b=>hQ _ h' (Array.getElem?_eq_getElem hk) ⟨a,by obtain ⟨o,e,r⟩:=st.2; exact ⟨o,b.extBut l o hne e,r⟩⟩ b
 done:=λA s Q E hh st hE=>oW hh st.1 st.2 (Array.getElem?_eq_none (Qh _)) hE
section
variable {z TI TO:Addr} {n1:Nat}
theorem aEJ {k:Nat} {a b:Value} (D:ZipApart z TI TO i1 i2 l1 l2) (S1:Sub prog w i1 l1 n1 P1 st1) (S2:Sub prog w i2 l2 n2 P2 st2) (hz:IsZip s.heap z TI TO .none) (hTI:IsPair s.heap TI (.ref i1) (.ref i2)) (hTO:IsPair s.heap TO a b) (h1:st1 k s.heap) (h2:st2 k s.heap) (k1:k < n1) (k2:k < n2) (hQ:∀ h' x y,P1 k x->P2 k y->IsZip h' z TI TO (rawInt s.heap.objs.size)->IsPair h' TO x y->st1 (k+1) h'->st2 (k+1) h'->IsPair h' s.heap.objs.size x y ->
   (∀ c o,c≠z->c≠TO->c≠i1->c≠i2->s.heap.get? c=some o->h'.get? c=some o)->Q (.ref s.heap.objs.size) { s with heap:=h' }) :
  wpAny (model prog w) A (Builtin.«zip.__next__» ⟨[.ref z],[]⟩) (λfin s'=>∃ v,fin=.done (.ret v)/\Q v s') E s:=by
 refine Ra (m:=field (.ref z) 2) (Ri hz rfl (x:=.bool false) rfl ?_)
 refine Ra (m:=field (.ref z) 3) (Ri hz rfl (x:=.ref TI) rfl ?_)
 refine Ra (Ro hTI rfl ?_)
 refine Ra (m:=Builtin.SmallTypes.ownedTupleIsFree (.ref z)) ?_
 unfold Builtin.SmallTypes.ownedTupleIsFree
 refine Ra (Ri hz rfl (x:=.none) rfl (Rb ?_))
 simp only [if_true]
 refine Ra (Tu ?_)
 refine Ra (Ri hz rfl (x:=.ref TO) rfl ?_)
 refine Ra (Rg hz (by simp) λg1 hz1 b1=>?_)
 have hz1':IsZip g1 z TI TO .ellipsis:=hz1
 refine Ra ?_
 simp only [Yr,Yx,Zb,Zi]
 -- the first one
 have s1:st1 k g1:=S1.keep _ _ _ h1 λc hc o e=>b1.extBut c o (by rcases hc with r | r <;> rw [r]; exact D.i1z; exact D.l1z) e
 refine Ra (Ra (Uh ?_))
 refine Ra (m:=Builtin.SmallTypes.nextOf (.ref i1)) (S1.item _ k _ _ _ k1 s1 λx g2 px t1 b2=>Rb ?_)
 have o2:IsPair g2 TO a b:=b2.extBut _ _ D.TOi1 (b1.extBut _ _ D.TOz hTO)
 refine Ra (Ro o2 rfl ?_)
 refine Ra (Tr o2 λg3 o3 b3=>?_)
 have o3':IsPair g3 TO x b:=o3
 refine Ra (Th (Rb ?_))
 -- the second one
 have s2:st2 k g3:=S2.keep _ _ _ h2 λc hc o e=>by
  rcases hc with r | r
  ·rw [r] at e ⊢; exact b3.extBut _ _ D.TOi2.symm (b2.extBut _ _ D.i12.symm (b1.extBut _ _ D.i2z e))
  ·rw [r] at e ⊢; exact b3.extBut _ _ D.l2TO (b2.extBut _ _ D.l2i1 (b1.extBut _ _ D.l2z e))
 refine Ra (Ra (Uh ?_))
 refine Ra (m:=Builtin.SmallTypes.nextOf (.ref i2)) (S2.item _ k _ _ _ k2 s2 λy g4 py t2 b4=>Rb ?_)
 have o4:IsPair g4 TO x b:=b4.extBut _ _ D.TOi2 o3'
 refine Ra (Ro o4 rfl ?_)
 refine Ra (Tr o4 λg5 o5 b5=>?_)
 have o5':IsPair g5 TO x y:=o5
 refine Ra (Th (Rb (Rb ?_)))
 refine Ra (Ro o5' rfl ?_)
 refine Ra (Vi ?_)
 have sz:g5.objs.size=s.heap.objs.size:=by rw [b5.1,b4.1,b3.1,b2.1,b1.1]
 have z5:IsZip g5 z TI TO .ellipsis:=b5.extBut _ _ D.TOz.symm (b4.extBut _ _ D.i2z.symm (b3.extBut _ _ D.TOz.symm (b2.extBut _ _ D.i1z.symm hz1')))
 have kp5:∀ c o,c≠z->c≠TO->c≠i1->c≠i2->s.heap.get? c=some o->g5.get? c=some o:=λc o c1 c2 c3 c4 e =>
  b5.extBut _ _ c2 (b4.extBut _ _ c4 (b3.extBut _ _ c2 (b2.extBut _ _ c3 (b1.extBut _ _ c1 e))))
 have t1':st1 (k+1) g5:=S1.keep _ _ _ t1 λc hc o e=>by
  rcases hc with r | r
  ·rw [r] at e ⊢; exact b5.extBut _ _ D.TOi1.symm (b4.extBut _ _ D.i12 (b3.extBut _ _ D.TOi1.symm e))
  ·rw [r] at e ⊢; exact b5.extBut _ _ D.l1TO (b4.extBut _ _ D.l1i2 (b3.extBut _ _ D.l1TO e))
 have t2':st2 (k+1) g5:=S2.keep _ _ _ t2 λc hc o e=>by
  rcases hc with r | r
  ·rw [r] at e ⊢; exact b5.extBut _ _ D.TOi2.symm e
  ·rw [r] at e ⊢; exact b5.extBut _ _ D.l2TO e
 have zlt:g5.objs.size≠z:=Xm (Qm z5)
 refine Ra (m:=Builtin.SmallTypes.ownedTupleHandOut (.ref z) (.ref g5.objs.size)) ?_
 unfold Builtin.SmallTypes.ownedTupleHandOut
 have z6:IsZip (g5.push { cls:=.type "tuple",data:=.seq #[x,y] }) z TI TO .ellipsis:=Qa _ z5
 refine Ra (Rg z6 (by simp) λg7 z7 b7=>?_)
 have z7':IsZip g7 z TI TO (rawInt g5.objs.size):=z7
 refine Rg z7' (by simp) λg8 z8 b8=>?_
 have z8':IsZip g8 z TI TO (rawInt g5.objs.size):=z8
 have up:∀ c o,c≠z->g5.get? c=some o->g8.get? c=some o:=λc o c1 e=>b8.extBut _ _ c1 (b7.extBut _ _ c1 (Qa _ e))
 have T8:IsPair g8 g5.objs.size x y:=b8.extBut _ _ zlt (b7.extBut _ _ zlt (Qg _ rfl))
 rw [sz] at z8' T8
 refine Rb ⟨_,rfl,?_⟩
 show Q (.ref g5.objs.size) _
 rw [sz]
 refine hQ g8 x y px py z8' (up _ _ D.TOz o5') (S1.keep _ _ _ t1' λc hc o e=>up c o (by rcases hc with r | r <;> rw [r]; exact D.i1z; exact D.l1z) e) (S2.keep _ _ _ t2' λc hc o e=>up c o (by rcases hc with r | r <;> rw [r]; exact D.i2z; exact D.l2z) e) T8 λc o c1 c2 c3 c4 e=>up c o c1 (kp5 c o c1 c2 c3 c4 e)
theorem aGn {k:Nat} {a b:Value} {Q:Fin->Shared->Prop} (hh:A.handled=none) (D:ZipApart z TI TO i1 i2 l1 l2) (S1:Sub prog w i1 l1 n1 P1 st1) (S2:Sub prog w i2 l2 n2 P2 st2)
  (hz:IsZip s.heap z TI TO .none) (hTI:IsPair s.heap TI (.ref i1) (.ref i2)) (hTO:IsPair s.heap TO a b) (h1:st1 k s.heap) (h2:st2 k s.heap) (hend:k=n1/\k<=n2∨k=n2/\k < n1)
  (hE:∀ h' e,(∀ c o,c≠z->c≠TO->c≠i1->c≠i2->s.heap.get? c=some o->h'.get? c=some o)->(∃ o,h'.get? e=some o/\o.cls=.type "StopIteration")->E (.ref e) { s with heap:=h' }) :
  wpAny (model prog w) A (Builtin.«zip.__next__» ⟨[.ref z],[]⟩) Q E s:=by
 refine Ra (m:=field (.ref z) 2) (Ri hz rfl (x:=.bool false) rfl ?_)
 refine Ra (m:=field (.ref z) 3) (Ri hz rfl (x:=.ref TI) rfl ?_)
 refine Ra (Ro hTI rfl ?_)
 refine Ra (m:=Builtin.SmallTypes.ownedTupleIsFree (.ref z)) ?_
 unfold Builtin.SmallTypes.ownedTupleIsFree
 refine Ra (Ri hz rfl (x:=.none) rfl (Rb ?_))
 simp only [if_true]
 refine Ra (Tu ?_)
 refine Ra (Ri hz rfl (x:=.ref TO) rfl ?_)
 refine Ra (Rg hz (by simp) λg1 hz1 b1=>?_)
 have hz1':IsZip g1 z TI TO .ellipsis:=hz1
 refine Ra ?_
 simp only [Yr,Yx,Zb,Zi]
 have s1:st1 k g1:=S1.keep _ _ _ h1 λc hc o e=>b1.extBut c o (by rcases hc with r | r <;> rw [r]; exact D.i1z; exact D.l1z) e
 refine Ra (Ra (Uh ?_))
 have fin:∀ (g:Heap) (e:Addr) (g0:Heap),(∃ o,g.get? e=some o/\o.cls=.type "StopIteration")->IsZip g z TI TO .ellipsis->(∀ c o,c≠z->c≠TO->c≠i1->c≠i2->s.heap.get? c=some o->g.get? c=some o) ->
   wpAny (model prog w) A (setField (.ref z) 0 .none) (λ_ s'=>E (.ref e) s') E { s with heap:=g }:=λg e g0 ⟨oe,hoe,hce⟩ hzz kp=>by
  have hez:e≠z:=λq=>by rw [q,hzz] at hoe; cases hoe; simp at hce
  exact Rg hzz (by simp) λg' _ b'=>hE g' e (λc o c1 c2 c3 c4 q=>b'.extBut _ _ c1 (kp c o c1 c2 c3 c4 q)) ⟨oe,b'.extBut _ _ hez hoe,hce⟩
 rcases hend with ⟨e1,_⟩ | ⟨e2,k1⟩
 ·rw [e1] at s1
  refine Ra (m:=Builtin.SmallTypes.nextOf (.ref i1)) (S1.done _ _ _ _ hh s1 λg2 e b2 he=>?_)
  exact fin g2 e g1 he (b2 _ _ D.i1z.symm hz1') λc o c1 _ c3 _ q=>b2 _ _ c3 (b1.extBut _ _ c1 q)
 ·refine Ra (m:=Builtin.SmallTypes.nextOf (.ref i1)) (S1.item _ k _ _ _ k1 s1 λx g2 px t1 b2=>Rb ?_)
  have o2:IsPair g2 TO a b:=b2.extBut _ _ D.TOi1 (b1.extBut _ _ D.TOz hTO)
  refine Ra (Ro o2 rfl ?_)
  refine Ra (Tr o2 λg3 o3 b3=>?_)
  refine Ra (Th (Rb ?_))
  have s2:st2 n2 g3:=by
   rw [<- e2]
   exact S2.keep _ _ _ h2 λc hc o e=>by
    rcases hc with r | r
    ·rw [r] at e ⊢; exact b3.extBut _ _ D.TOi2.symm (b2.extBut _ _ D.i12.symm (b1.extBut _ _ D.i2z e))
    ·rw [r] at e ⊢; exact b3.extBut _ _ D.l2TO (b2.extBut _ _ D.l2i1 (b1.extBut _ _ D.l2z e))
  refine Ra (Ra (Uh ?_))
  refine Ra (m:=Builtin.SmallTypes.nextOf (.ref i2)) (S2.done _ _ _ _ hh s2 λg4 e b4 he=>?_)
  exact fin g4 e g3 he (b4 _ _ D.i2z.symm (b3.extBut _ _ D.TOz.symm (b2.extBut _ _ D.i1z.symm hz1'))) λc o c1 c2 c3 c4 q=>b4 _ _ c4 (b3.extBut _ _ c2 (b2.extBut _ _ c3 (b1.extBut _ _ c1 q)))
end
inductive Sk where
 | l | t
end L2
variable {k1 k2:Sk}
namespace L2
open PySem PySem.Spec PyProof.Rows
def SqK (k:Sk) (K:Rc) (H:Hp) (a:Addr) (xs:List V):Prop:=match k with | .l=>SqL K H a xs | .t=>SqT K H a xs
def AtK (k:Sk) (h:Heap) (a:Addr) (its:Array Value):Prop:=match k with | .l=>h.IsList a its | .t=>h.IsTuple a its
def ItK (k:Sk) (h:Heap) (i a:Addr) (n:Nat):Prop:=match k with | .l=>h.IsListIter i a n | .t=>h.IsTupleIter i a n
def itK (k:Sk) (a:Addr):Obj:=match k with | .l=>{ cls:=.type "list_iterator",data:=.fields #[.ref a,.int 0 0] } | .t=>{ cls:=.type "tuple_iterator",data:=.fields #[.ref a,.int 0 0] }
theorem ItK.new (k:Sk) (h:Heap) (a:Addr):ItK k (h.push (itK k a)) h.objs.size a 0:=by
 cases k
 ·exact ⟨_,Qg _ rfl,rfl,rfl⟩
 ·exact ⟨_,Qg _ rfl,rfl,rfl⟩
theorem ItK.obj {k:Sk} {i:Addr} {n:Nat} (x:ItK k h i a n):∃ o,h.get? i=some o/\∀ v,o.data≠.cell v:=by
 cases k
 ·obtain ⟨o,e,_,d⟩:=x; exact ⟨o,e,λv z=>by rw [d] at z; cases z⟩
 ·obtain ⟨o,e,_,d⟩:=x; exact ⟨o,e,λv z=>by rw [d] at z; cases z⟩
theorem ItK.at {k:Sk} {i:Addr} {n:Nat} (x:ItK k h i a n) (kp:∀ o,h.get? i=some o->h'.get? i=some o):ItK k h' i a n:=by
 cases k
 ·exact Heap.IsListIter.at x kp
 ·exact Heap.IsTupleIter.at x kp
theorem AtK.at {k:Sk} {its:Array Value} (x:AtK k h a its) (kp:∀ o,h.get? a=some o->h'.get? a=some o):AtK k h' a its:=by
 cases k
 ·exact Heap.IsList.at x kp
 ·obtain ⟨o,e,r⟩:=x; exact ⟨o,kp o e,r⟩
theorem sV (k:Sk) (prog:Program) (w:World) (i l:Addr) (items:Array Value) (hne:l≠i):Sub prog w i l items.size (λj v=>items[j]?=some v) (λj h=>ItK k h i l j/\AtK k h l items):=by
 cases k
 ·exact aC4 prog w i l items hne
 ·exact aBY prog w i l items hne
theorem xF {k:Sk} {its:Array Value} (h:AtK k s.heap a its) (hQ:Q (.ref s.heap.objs.size) { s with heap:=s.heap.push (itK k a) }):wpAny (model prog w) A (pyIter (.ref a)) Q E s:=by
 cases k
 ·exact Tq h hQ
 ·exact Il h hQ
section
variable {σ:St}
theorem Inv.seqK (I:Inv X pins σ H s) {k:Sk} (h:SqK k X.K H a xs):∃ its:List Value,bK xs its/\AtK k s.heap a its.toArray:=by
 cases k
 ·obtain ⟨its,r,p,_⟩:=I.list h; exact ⟨its,r,p.isList⟩
 ·obtain ⟨its,r,p,_⟩:=I.tuple h; exact ⟨its,r,p⟩
theorem Inv.seqK_inj (I:Inv X pins σ H s) {k:Sk} (h:SqK k X.K H a xs) (h':SqK k X.K H a ys):xs=ys:=by
 cases k
 ·exact I.list_inj h h'
 ·exact I.tuple_inj h h'
theorem Inv.seq_ne (I:Inv X pins σ H s) {k:Sk} (h:SqK k X.K H a xs) (f:qE X pins H b):a≠b:=by
 have rd:∀ {u:HO},Rd H a u->a≠b:=λ{u} r z=>by
  rcases r with r | ⟨o,r⟩ <;> (rw [z,f.1] at r; cases r)
 have kk:∀ {o:Obj},X.K.lookup a=some o->a≠b:=λ{o} e z=>by
  have e1:=I.ok.mod.kin a o e
  rcases f.2.2.2.1 with q | q
  ·exact I.ok.noex a o e1 (z ▸ q)
  ·exact Ju _ (Qx (Qm (I.ok.bs a o e1).1) (z ▸ q))
 cases k
 ·rcases h with h | ⟨o,_,_,e,_⟩
  ·exact rd h
  ·exact kk e
 ·rcases h with h | ⟨o,_,_,e,_⟩
  ·exact rd h
  ·exact kk e
theorem Inv.turnedL (ch:List Addr) (I:Inv X pins σ H s) (k:∀ b o,b∉ch->s.heap.get? b=some o->h'.get? b=some o) (f:∀ b∈ch,qE X pins H b):Inv X pins σ H { s with heap:=h',toks:=t' }:=by
 have nit:∀ b u,H b=some u->b∉ch:=λb u e z=>by rw [(f b z).1] at e; cases e
 have nL:X.env.locals∉ch:=λz=>(f _ z).2.1 rfl
 refine I.step (g':=s.gens) (d':=s.drawn) (ch:=ch) (λb hb=>⟨(f b hb).2.2.2.1,(f b hb).2.1,(f b hb).2.2.2.2.1,(f b hb).2.2.2.2.2⟩) (λb o _ _ hc e _=>k b o hc e) (λb o _ _ hc e _=>⟨o.slots,k b o hc e⟩) (λ_ _ _ _ n=>n)
  (λb o hc e=>⟨o,k b o hc e⟩) (λ_ _ e=>e) (λ_ _ _ e=>e) (λb ps e=>⟨#[],by rw [e]; simp⟩) (λm hm=>?_) (λb u e=>?_) I.bare
 ·obtain ⟨o,es,ep,ho,r⟩:=hm
  exact ⟨o,es,ep,k _ o nL ho,r⟩
 ·refine (I.hok b u e).stay (λc v hc q=>k c v ?_ q) (λ_ q=>q) λ_ _ q=>q
  rcases hc with z | z
  ·rw [z]; exact nit b u e
  ·exact nit c _ z
theorem Inv.trackO {u:HO} (I:Inv X pins σ H s) (new:bN X.prog X.w (upd H D u) s.heap D u) (hn:H D=none) (hL:D≠X.env.locals) (h1:X.s0x.heap.objs.size<=D) (h2:∀ x c,X.env.cells.lookup x=some c->c≠D) (h3:∀ p∈X.pn++pins,p.1≠D):Inv X pins σ (upd H D u) s:=by
 have ne:∀ b v,H b=some v->b≠D:=λb v e z=>by rw [z,hn] at e; cases e
 refine I.step (g':=s.gens) (d':=s.drawn) (t':=s.toks) (h':=s.heap) (ch:=[D]) (λb hb=>?_) (λb o _ _ _ e _=>e) (λb o _ _ _ e _=>⟨o.slots,e⟩) (λb o hc _ n=>?_) (λb o _ e=>⟨o,e⟩)
  (λb xs e=>by rw [aH (ne b _ e)]; exact e) (λb o v e=>by rw [aH (ne b _ e)]; exact e) (λb ps e=>⟨#[],by rw [aH (ne b _ e),e]; simp⟩) (λ_ h=>h) (λb v e=>?_) I.bare
 ·have e:b=D:=by simpa using hb
  subst e
  exact ⟨.inr h1,hL,h2,h3⟩
 ·rw [aH (by simpa using hc)]; exact n
 ·by_cases hb:b=D
  ·subst hb
   rw [aB] at e; cases e
   exact new
  ·rw [aH hb] at e
   exact (I.hok b v e).stay (λc v _ q=>q) (λc q=>by rw [aH (ne c _ q)]; exact q) λc xs q=>by rw [aH (ne c _ q)]; exact q
end
def Itz (K:Rc) (k1 k2:Sk) (a b:Addr):It :=
 ⟨λi H => ∃ xs ys x y, SqK k1 K H a xs /\ SqK k2 K H b ys /\ xs[i]? = some x /\ ys[i]? = some y,
  λi H v H'=>∃ p,H p=none/\v=.ref p/\∀ xs ys,SqK k1 K H a xs->SqK k2 K H b ys->∃ x y,xs[i]?=some x/\ys[i]?=some y/\H'=upd H p (.tup [x,y]),
  λi H=>∃ xs ys,SqK k1 K H a xs/\SqK k2 K H b ys/\min xs.length ys.length=i⟩
theorem aC5 {x1} (k1 k2:Sk) (a b z TI TO i1 i2:Addr) (D:∀ l1 l2:Addr,(∀ c∈[z,TI,TO,i1,i2],l1≠c)->(∀ c∈[z,TI,TO,i1,i2],l2≠c)->ZipApart z TI TO i1 i2 l1 l2) :
  Turn P w K (.Tuple es x1 pos) (Itz K k1 k2 a b) [z,TI,TO,i1,i2] z (λi h=>IsZip h z TI TO .none/\IsPair h TI (.ref i1) (.ref i2)/\(∃ x y,IsPair h TO x y)/\ItK k1 h i1 a i/\ItK k2 h i2 b i) where
 mem:=by simp
 obj:=λi h st c hc=>by
  obtain ⟨hz,hTI,⟨x,y,hTO⟩,h1,h2⟩:=st
  simp only [Qn,Qs,or_false] at hc
  rcases hc with rfl | rfl | rfl | rfl | rfl
  ·exact ⟨_,hz,λv q=>by cases q⟩
  ·exact ⟨_,hTI,λv q=>by cases q⟩
  ·exact ⟨_,hTO,λv q=>by cases q⟩
  ·exact h1.obj
  ·exact h2.obj
 keep:=λi h h' st k=>by
  obtain ⟨hz,hTI,⟨x,y,hTO⟩,h1,h2⟩:=st
  exact ⟨k z (by simp) _ hz,k TI (by simp) _ hTI,⟨x,y,k TO (by simp) _ hTO⟩,h1.at λo e=>k i1 (by simp) o e,h2.at λo e=>k i2 (by simp) o e⟩
 item:=by
  intro X hP hw hK hc i pins s σ H E I hf st hg
  subst hP hw hK
  obtain ⟨hz,hTI,⟨x0,y0,hTO⟩,h1,h2⟩:=st
  obtain ⟨xs,ys,x,y,ha,hb,hx,hy⟩:=hg
  obtain ⟨its,rv,pa⟩:=I.seqK ha
  obtain ⟨jts,rw',pb⟩:=I.seqK hb
  obtain ⟨u,hu,ru⟩:=rv.get hx
  obtain ⟨v,hv,rv2⟩:=rw'.get hy
  have na:∀ c∈[z,TI,TO,i1,i2],a≠c:=λc hc'=>I.seq_ne ha (hf c hc')
  have nb:∀ c∈[z,TI,TO,i1,i2],b≠c:=λc hc'=>I.seq_ne hb (hf c hc')
  have DD:=D a b na nb
  have hT:s.TypeIs (.ref z) "zip" := ⟨_,hz,rfl⟩
  have hi1:i < its.toArray.size:=by rw [Ql]; exact (Qd.mp hu).1
  have hi2:i < jts.toArray.size:=by rw [Ql]; exact (Qd.mp hv).1
  unfold pyNext
  refine Ra (Rx (Rh (name:=Str.ofString "__next__") hT Ru (Rj Ru hT Uq
   (aEJ DD (sV k1 X.prog X.w i1 a its.toArray (na i1 (by simp))) (sV k2 X.prog X.w i2 b jts.toArray (nb i2 (by simp))) hz hTI hTO ⟨h1,pa⟩ ⟨h2,pb⟩ hi1 hi2 λh' u' v' pu pv hz' hTO' s1 s2 hT' kp=>Rb ?_) (Um _))))
  have eu:u'=u:=by
   have q:its[i]?=some u':=by simpa using pu
   rw [hu] at q
   exact (Option.some.inj q).symm
  have ev:v'=v:=by
   have q:jts[i]?=some v':=by simpa using pv
   rw [hv] at q
   exact (Option.some.inj q).symm
  subst eu ev
  refine ⟨_,rfl,wpAny_letOwnedTupleGo_zip hz' λh2 hz2 sb2=>?_⟩
  have Tz:s.heap.objs.size≠z:=Xm (Qm hz)
  have hT2:IsPair h2 s.heap.objs.size u' v':=sb2.extBut _ _ Tz hT'
  have hf0:=I.hok.fresh (Qh s.heap.objs.size)
  have fz:=I.fpOk (Qh s.heap.objs.size) hf0
  have I2:Inv X pins σ H { s with heap:=h2 }:=by
   refine I.turnedL (t':=s.toks) [z,TO,i1,i2] (λc o hc' e=>?_) (λc hc'=>hf c ?_)
   ·simp only [Qn,Qs,or_false,not_or] at hc'
    exact sb2.extBut _ _ hc'.1 (kp c o hc'.1 hc'.2.1 hc'.2.2.1 hc'.2.2.2 e)
   ·simp only [Qn,Qs,or_false] at hc' ⊢
    rcases hc' with r | r | r | r
    ·exact .inl r
    ·exact .inr (.inr (.inl r))
    ·exact .inr (.inr (.inr (.inl r)))
    ·exact .inr (.inr (.inr (.inr r)))
  have I3:Inv X pins σ (upd H s.heap.objs.size (.tup [x,y])) { s with heap:=h2 }:=by
   refine I2.trackO (show bN X.prog X.w _ _ _ (.tup [x,y]) from ⟨by show 2<=sizeLine; rw [Rf]; decide,[u',v'],0,.cons ru (.cons rv2 .nil),hT2⟩) hf0 fz.2.1 I.sz fz.2.2.2.2.1 fz.2.2.2.2.2
  refine ⟨.ref s.heap.objs.size,_,I3,rfl,⟨s.heap.objs.size,hf0,rfl,λxs' ys' ha' hb'=>?_⟩,⟨hz2,sb2.extBut _ _ DD.TIz (kp _ _ DD.TIz DD.TITO DD.TIi1 DD.TIi2 hTI),⟨_,_,sb2.extBut _ _ DD.TOz hTO'⟩,s1.1.at λo e=>sb2.extBut _ _ DD.i1z e,s2.1.at λo e=>sb2.extBut _ _ DD.i2z e⟩,λc hc'=>?_⟩
  ·rw [I.seqK_inj ha' ha,I.seqK_inj hb' hb]
   exact ⟨x,y,hx,hy,rfl⟩
  ·have cl:c≠s.heap.objs.size:=by
    obtain ⟨o,e⟩:∃ o,s.heap.get? c=some o:=by
     simp only [Qn,Qs,or_false] at hc'
     rcases hc' with rfl | rfl | rfl | rfl | rfl
     ·exact ⟨_,hz⟩
     ·exact ⟨_,hTI⟩
     ·exact ⟨_,hTO⟩
     ·obtain ⟨o,e,_⟩:=h1.obj; exact ⟨o,e⟩
     ·obtain ⟨o,e,_⟩:=h2.obj; exact ⟨o,e⟩
    exact Qz (Qm e)
   rw [aH cl]
   exact (hf c hc').1
 done:=by
  intro X hP hw hK hc i pins s σ H E I hf st hg
  subst hP hw hK
  obtain ⟨hz,hTI,⟨x0,y0,hTO⟩,h1,h2⟩:=st
  obtain ⟨xs,ys,ha,hb,hmin⟩:=hg
  obtain ⟨its,rv,pa⟩:=I.seqK ha
  obtain ⟨jts,rw',pb⟩:=I.seqK hb
  have la:=rv.length
  have lb:=rw'.length
  have na:∀ c∈[z,TI,TO,i1,i2],a≠c:=λc hc'=>I.seq_ne ha (hf c hc')
  have nb:∀ c∈[z,TI,TO,i1,i2],b≠c:=λc hc'=>I.seq_ne hb (hf c hc')
  have DD:=D a b na nb
  have hT:s.TypeIs (.ref z) "zip" := ⟨_,hz,rfl⟩
  unfold pyNext
  refine Ra (Rx (Rh (name:=Str.ofString "__next__") hT Ru (Rj Ru hT Uq
   (aGn (I.ok.hd hc) DD (sV k1 X.prog X.w i1 a its.toArray (na i1 (by simp))) (sV k2 X.prog X.w i2 b jts.toArray (nb i2 (by simp))) hz hTI hTO ⟨h1,pa⟩ ⟨h2,pb⟩ (by rw [Ql,Ql]; omega) λh' e kp he=>?_) (Um _))))
  obtain ⟨oe,hoe,hce⟩:=he
  refine Ra (Tx (T := "StopIteration") (b:=true) ⟨oe,hoe,hce⟩ Ux (Rb ⟨rfl,?_⟩))
  refine I.turnedL (t':=s.toks) [z,TO,i1,i2] (λc o hc' e=>?_) (λc hc'=>hf c ?_)
  ·simp only [Qn,Qs,or_false,not_or] at hc'
   exact kp c o hc'.1 hc'.2.1 hc'.2.2.1 hc'.2.2.2 e
  ·simp only [Qn,Qs,or_false] at hc' ⊢
   rcases hc' with r | r | r | r
   ·exact .inl r
   ·exact .inr (.inr (.inl r))
   ·exact .inr (.inr (.inr (.inl r)))
   ·exact .inr (.inr (.inr (.inr r)))
 self:=λ_ _ _ _ _ st h=>Vc st.1 h
abbrev zh1 (k1:Sk) (h:Heap) (a:Addr):Heap:=h.push (itK k1 a)
abbrev zh2 (k1 k2:Sk) (h:Heap) (a b:Addr):Heap:=(zh1 k1 h a).push (itK k2 b)
abbrev zh3 (k1 k2:Sk) (h:Heap) (a b:Addr):Heap:=(zh2 k1 k2 h a b).push { cls:=.type "tuple",data:=.seq #[.ref h.objs.size,.ref (zh1 k1 h a).objs.size] }
abbrev zh4 (k1 k2:Sk) (h:Heap) (a b:Addr):Heap:=(zh3 k1 k2 h a b).push { cls:=.type "tuple",data:=.seq #[.none,.none] }
abbrev zh5 (k1 k2:Sk) (h:Heap) (a b:Addr):Heap:=(zh4 k1 k2 h a b).push { cls:=.type "zip",data:=.fields #[.none,.bool false,.bool false,.ref (zh2 k1 k2 h a b).objs.size,.ref (zh3 k1 k2 h a b).objs.size] }
theorem xG (k1 k2:Sk) (a b:Addr) (xs ys:Array Value) :
  Meets (Builtin.«zip.__new__» ⟨[.type "zip",.ref a,.ref b],[]⟩) (λ_ R s=>AtK k1 s.heap a xs/\AtK k2 s.heap b ys/\R (.ok (.ret (.ref (zh4 k1 k2 s.heap a b).objs.size))) { s with heap:=zh5 k1 k2 s.heap a b }) :=
 .of_wp λprog w A R s h=>by
  obtain ⟨hp,g,d,tk,os⟩:=s
  obtain ⟨hl1,hl2,h⟩:=h
  have hsub:=sub_zip
  have hA:AtK k1 (Shared.heap ⟨hp,g,d,tk,os⟩) a xs:=hl1
  have hB:AtK k2 (Shared.heap ⟨hp.push (itK k1 a),g,d,tk,os⟩) b ys:=AtK.at hl2 λo e=>Qa _ e
  wp_walk using xF hA,xF hB
  exact ⟨_,rfl,h⟩
def aHf (K:Rc) (k1 k2:Sk) (ta:TA):TI:=λσ H R=>ta σ H λvs H1=>∃ a b xs ys,vs = [.ref a,.ref b]/\SqK k1 K H1 a xs/\SqK k2 K H1 b ys/\R (Itz K k1 k2 a b) H1
theorem zX (k1 k2:Sk) {a b:Expr} {ta:TA} (hg:Gl X "zip") (hm:X.mg "zip" = none) (ha:PA X [a,b] ta) (hs:starEach [a,b] X.env = [(false,eval a X.env),(false,eval b X.env)]:=by rfl) (hs2:starEach [b] X.env = [(false,eval b X.env)]:=by rfl) :
  PI X (.Tuple es x1 tpos) (.Call (.Name "zip" p) [a,b] [] pos) (aHf X.K k1 k2 ta):=by
 intro pins s σ H R I h
 refine Call_ (iU (u:=.type "zip") I hg hm (by decide +kernel) (PyProof.Rows.callWith_type1 (thn (ha pos pins s σ H _ I h) λus s1 hx9=>?_) (by rw [hs,hs2]) (by rw [hs2]; rfl)))
 obtain ⟨vs,H1,I1,r1,q1⟩:=hx9
 obtain ⟨l1,l2,xs,ys,rfl,hA,hB,q⟩:=q1
 obtain ⟨u1,u2,rfl,r1',r2'⟩:=pU r1
 cases r1'
 cases r2'
 obtain ⟨its,rv,pa⟩:=I1.seqK hA
 obtain ⟨jts,rw',pb⟩:=I1.seqK hB
 refine Vr Mz (by decide) (Mh _ _) (Mn _ _) (λobj=>Ir obj _ _) Mp (xG k1 k2 l1 l2 its.toArray jts.toArray) ⟨pa,pb,?_⟩
 have n1:(zh1 k1 s1.heap l1).objs.size=s1.heap.objs.size+1:=Jk ..
 have n2:(zh2 k1 k2 s1.heap l1 l2).objs.size=s1.heap.objs.size+2:=by rw [Jk,n1]
 have n3:(zh3 k1 k2 s1.heap l1 l2).objs.size=s1.heap.objs.size+3:=by rw [Jk,n2]
 have n4:(zh4 k1 k2 s1.heap l1 l2).objs.size=s1.heap.objs.size+4:=by rw [Jk,n3]
 have g5:IsZip (zh5 k1 k2 s1.heap l1 l2) (zh4 k1 k2 s1.heap l1 l2).objs.size (zh2 k1 k2 s1.heap l1 l2).objs.size (zh3 k1 k2 s1.heap l1 l2).objs.size .none:=Qg _ rfl
 have g4:IsPair (zh5 k1 k2 s1.heap l1 l2) (zh3 k1 k2 s1.heap l1 l2).objs.size .none .none:=Qa _ (Qg _ rfl)
 have g3:IsPair (zh5 k1 k2 s1.heap l1 l2) (zh2 k1 k2 s1.heap l1 l2).objs.size (.ref s1.heap.objs.size) (.ref (zh1 k1 s1.heap l1).objs.size):=Qa _ (Qa _ (Qg _ rfl))
 have g2:ItK k2 (zh5 k1 k2 s1.heap l1 l2) (zh1 k1 s1.heap l1).objs.size l2 0:=(ItK.new k2 (zh1 k1 s1.heap l1) l2).at λo e=>Qa _ (Qa _ (Qa _ e))
 have g1:ItK k1 (zh5 k1 k2 s1.heap l1 l2) s1.heap.objs.size l1 0:=(ItK.new k1 s1.heap l1).at λo e=>Qa _ (Qa _ (Qa _ (Qa _ e)))
 have kp:∀ c o,s1.heap.get? c=some o->(zh5 k1 k2 s1.heap l1 l2).get? c=some o:=λc o e=>Qa _ (Qa _ (Qa _ (Qa _ (Qa _ e))))
 refine ⟨⟨_,g5,rfl⟩,Vc (f0:=.none) g5 ?_⟩
 rw [n1,n2,n3,n4] at *
 have I2:Inv X pins σ H1 { s1 with heap:=zh5 k1 k2 s1.heap l1 l2 }:=I1.kept (t':=s1.toks) kp
 refine ⟨s1.heap.objs.size+4,[s1.heap.objs.size+4,s1.heap.objs.size+2,s1.heap.objs.size+3,s1.heap.objs.size,s1.heap.objs.size+1],_,_,H1,rfl,I2,aC5 k1 k2 l1 l2 _ _ _ _ _ ?_,⟨g5,g3,⟨_,_,g4⟩,g1,g2⟩,λc hc=>?_,q⟩
 ·intro m1 m2 h1 h2
  have d:∀ i j:Nat,i≠j->s1.heap.objs.size+i≠s1.heap.objs.size+j:=λi j h=>by omega
  exact ⟨d 2 4 (by decide),d 3 4 (by decide),d 0 4 (by decide),d 1 4 (by decide),d 2 3 (by decide),d 2 0 (by decide),d 2 1 (by decide),d 3 0 (by decide),d 3 1 (by decide),d 0 1 (by decide),
   h1 _ (by simp),h1 _ (by simp),h1 _ (by simp),h1 _ (by simp),h2 _ (by simp),h2 _ (by simp),h2 _ (by simp),h2 _ (by simp)⟩
 ·have hc':s1.heap.objs.size<=c:=by
   simp only [Qn,Qs,or_false] at hc
   rcases hc with r | r | r | r | r
   ·rw [r]; exact Xy _ _
   ·rw [r]; exact Xy _ _
   ·rw [r]; exact Xy _ _
   ·rw [r]; exact Qh _
   ·rw [r]; exact Xy _ _
  exact I1.fpOk hc' (I1.hok.fresh hc')
open PySem.AutoSeq1 (wpAny_loadPart')
theorem mJ (l b:Addr) (items items2:Array Value) (n n2:Nat) (dd dd2:Option Addr) (sl sl2:Array (Option Value)) (hc0:items.isEmpty=true) :
  Meets (Builtin.«tuple.__add__» ⟨[.ref l,.ref b],[]⟩) (λ_ R s=>s.heap.get? l=some { cls:=.type "tuple",dict:=dd,data:=.seq items n,slots:=sl }/\s.heap.get? b=some { cls:=.type "tuple",dict:=dd2,data:=.seq items2 n2,slots:=sl2 }/\R (.ok (.ret (Value.ref b))) s) :=
 .of_wp λprog w A R s h=>by
  obtain ⟨hp,g,d,tk,os⟩:=s
  obtain ⟨hl,hb,h⟩:=h
  have f1:=AutoSeq1.idx_int
  have f2:=AutoSeq1.sub_tuple_tuple
  wp_walk using Rr hl,Rr hb
  exact ⟨_,rfl,h⟩
theorem qH:OpR X (binaryOp .Add) (λx y H Q=>∃ a b xs ys,x=.ref a/\y=.ref b/\SqT X.K H a xs/\SqT X.K H b ys/\xs.length+ys.length<=sizeLine/\∀ p H',aD H H'->SqT X.K H' p (xs++ys)->Q (.ref p) H'):=by
 intro pins s σ H x y v u Q I rx ry h
 obtain ⟨a,b,xs,ys,rfl,rfl,ha,hb,hz,q⟩:=h
 by_cases hx:xs = []
 ·subst hx
  cases rx
  cases ry
  obtain ⟨its,r1,⟨⟨cls,dd,data,sl⟩,ho,hc,n,hd⟩,_⟩:=I.tuple ha
  obtain ⟨its2,r2,⟨⟨cls2,dd2,data2,sl2⟩,ho2,hc2,n2,hd2⟩,_⟩:=I.tuple hb
  simp only at hc hd hc2 hd2
  subst hc hd hc2 hd2
  cases r1
  exact Iw ⟨_,ho,rfl⟩ ⟨_,ho2,rfl⟩ Vp Ie Up Ul (Uk _ _)
   (mJ a b _ _ n n2 dd dd2 sl sl2 rfl) ⟨ho,ho2,⟨.ref b,H,I,rfl,q b H (aD.refl H) hb⟩⟩
 ·refine aAW pins s σ H _ _ v u Q I rx ry ⟨a,b,xs,ys,rfl,rfl,ha,hb,hx,hz,λe=>?_,λe p hp=>?_⟩
  ·subst e
   exact q a H (aD.refl H) (by rw [Zk]; exact ha)
  ·exact q p _ (aD.new hp) (SqT.of aB)
theorem mH {t:Addr} {lo:Option Int} (ht:IsTup s.heap t items) (hs:s.heap.IsSliceOf sl vl vu .none) (pl:IsPart vl lo) (pu:IsPart vu hi) (hw:HT.sIx items.size 0 lo=0/\HT.sIx items.size items.size hi=items.size) (h:Q (.ref t) s):wpAny (model prog w) A (getItem (.ref t) (.ref sl)) Q E s:=by
 obtain ⟨os,hos,hcs,hds⟩:=id hs
 have hTs:s.TypeIs (.ref sl) "slice" := ⟨os,hos,hcs⟩
 unfold getItem
 try with_reducible refine Rl ?_
 first | refine Ra (Rb ?_) | skip
 refine Ra (RaD ht.typeIs (by decide) ?_)
 refine Ra (Rh (name:=Str.ofString "__getitem__") ht.typeIs PyProof.Rows.slot_tuple_getitem
  (Rj PyProof.Rows.slot_tuple_getitem ht.typeIs Rax ?_ (Ray _ _)))
 refine Ra (m:=Builtin.Tuple.tupleItemsOf (.ref t)) (tupleItemsOf_ ht ?_)
 refine Ra (Vh hTs ?_)
 rw [if_pos (by decide)]
 refine Ra (HT.sliceApplied_gen hs pl pu ?_)
 have hyes:(((HT.sIx items.size 0 lo:Nat):Int)==0 && (1:Int)==1 && (HT.sIx items.size items.size hi - HT.sIx items.size 0 lo)==items.size)=true:=by
  rw [hw.1,hw.2]; simp
 show wpAny _ _ (if (((HT.sIx items.size 0 lo:Nat):Int)==0 && (1:Int)==1 && (HT.sIx items.size items.size hi - HT.sIx items.size 0 lo)==items.size)=true then _ else _) _ _ s
 rw [if_pos hyes]
 unfold Builtin.Tuple.tupleIsExact
 refine Ra (Ra (Vh ht.typeIs (Rb ?_)))
 refine To (λ_=>Ra (Tu (Rb ⟨_,rfl,Rb h⟩))) (λhab=>absurd (by rfl) hab)
theorem vA:SlR X (λx lo hi H Q=>∃ a xs,x=.ref a/\SqT X.K H a xs/\∀ p H',aD H H'->SqT X.K H' p (mV xs lo hi)->Q (.ref p) H'):=by
 intro pins s σ H x v vl vu lo hi sl Q I rx hs pl pu h
 obtain ⟨a,xs,rfl,hx,q⟩:=h
 by_cases hw:HT.sIx xs.length 0 lo=0/\HT.sIx xs.length xs.length hi=xs.length
 ·cases rx
  obtain ⟨its,r,ht,hz⟩:=I.tuple hx
  have hlen:its.toArray.size=xs.length:=by rw [Ql]; exact r.length.symm
  refine ⟨"tuple",_,PyProof.Rows.slot_tuple_getitem.lookup,ht.typeIs,?_⟩
  refine mH ht hs pl pu (by rw [hlen]; exact hw) ⟨.ref a,H,I,rfl,q a H (aD.refl H) ?_⟩
  have e:mV xs lo hi=xs:=by
   unfold mV
   rw [hw.1,hw.2,Wa,Qas,Jf]
  rw [e]; exact hx
 ·exact aGe pins s σ H _ v vl vu lo hi sl Q I rx hs pl pu ⟨a,xs,rfl,hx,hw,λp hp=>q p _ (aD.new hp) (SqT.of aB)⟩
theorem kJ (xs:List V) (k:Nat):mV xs none (some (k:Int))=xs.take k:=by
 unfold mV
 rw [HT.sIx_none,HT.sIx_nat,Wa,Qas]
 by_cases h:k<=xs.length
 ·rw [Nat.min_eq_left h]
 ·rw [Nat.min_eq_right (by omega),Jq (Qh _),Jq (by omega)]
theorem jS (xs:List V) (k:Nat):mV xs (some (k:Int)) none=xs.drop k:=by
 unfold mV
 rw [HT.sIx_none,HT.sIx_nat]
 by_cases h:k<=xs.length
 ·rw [Nat.min_eq_left h,Jq (by rw [Jy]; exact Qh _)]
 ·rw [Nat.min_eq_right (by omega),Wq (Qh _),Wq (by omega),List.take_nil]
def qI (N frn:List Str) (fr:List Nat):Bool:=frn.length==fr.length && (frn.zip fr).all λy=>N[y.2]?==some y.1
theorem xH {fr:List Nat} {sc:Scope} (h1:X.env.scope=sc) (h2:X.N=N) (cf:∀ z0,z=some z0->(∀ (n:Nat) (cl:List (Str×Addr)),cellsFrom n scope.names cl=(z0,n)::cl)/\∀ h:Heap,pushCells h scope.names=h.push { cls:=.type "cell",data:=.cell none }) (h:(jQ sc scope z own frn && qI N frn fr)=true):CompOk X scope z own fr frn:=by
 rw [Jn] at h
 obtain ⟨ha,hb⟩:=h
 unfold qI at hb
 simp only [Jn,beq_iff_eq,Jt] at hb
 refine ⟨by rw [h1]; exact ha,λk x hk=>?_,hb.1.symm,cf⟩
 have hlt:k < fr.length:=by rw [<- hb.1]; exact (Qd.mp hk).1
 refine ⟨fr[k],Qc hlt,?_⟩
 have hm:(x,fr[k])∈frn.zip fr:=by
  refine Qi (i:=k) ?_
  rw [Jl]
  exact ⟨hk,Qc hlt⟩
 rw [h2]
 exact hb.2 _ hm
theorem bG {fr:List Nat} (sc:Scope) (N:List Str) (h1:X.env.scope=sc) (h2:X.N=N) (h:(jQ sc scope none own frn && qI N frn fr)=true):CompOk X scope none own fr frn:=xH h1 h2 (λ_ q=>by cases q) h
section
variable {own:Nat} {fr:List Nat} {σ:St} {Q:Hp->List V->Prop}
theorem vB {a0:α} {σ0:St} {Q:Hp->α->Prop} {tb:α->St->Hp->(α->St->Hp->Prop)->Prop} (n:Nat) (SH:St->Prop) (Pv:Nat->α->Hp->Prop) (hσ:SH σ0) (h0:Pv 0 a0 H) (hstop:∀ a H,Pv n a H->J.stop n H) (hgo:∀ i a H,i < n->Pv i a H->J.go i H) (hs:∀ i a σ x H H',i < n->SH σ->Pv i a H->J.yld i H x H'->g x σ H' λσ2 H2=>tt σ2 H2 λb H3=>if b=true then tb a σ2 H3 λa' σ3 H4=>SH σ3/\Pv (i+1) a' H4 else SH σ2/\Pv (i+1) a H3) (hd:∀ a H,Pv n a H->Q H a):Wlk J a0 σ0 H (λa _ H=>Q H a) g tt tb:=by
 refine ⟨λi m ys σ' H=>m=n - i/\i<=n/\SH σ'/\Pv i ys H,⟨n,by simp,Jr _,hσ,h0⟩,?_⟩
 rintro i m ys σ' H ⟨rfl,hi,sh,p⟩
 by_cases hlt:i < n
 ·refine .inr ⟨hgo i ys H hlt p,λys' σ2 H2=>SH σ2/\Pv (i+1) ys' H2,λys' σ2 H2 ⟨e,q⟩=>⟨n - (i+1),by omega,rfl,hlt,e,q⟩,λx H' y=>?_⟩
  exact hs i ys σ' x H H' hlt sh p y
 ·have e:i=n:=by omega
  subst e
  exact .inl ⟨hstop ys H p,hd ys H p⟩
theorem nJ (n:Nat) (hn:n<=sizeLine) (SH:St->Prop) (Pv:Nat->List V->Hp->Prop) (hσ:SH (blk own fr σ)) (h0:Pv 0 [] H) (hlen:∀ i ys H,Pv i ys H->ys.length<=i)
  (hstop:∀ ys H,Pv n ys H->J.stop n H) (hgo:∀ i ys H,i < n->Pv i ys H->J.go i H)
  (hs:∀ i ys σ x H H',i < n->SH σ->Pv i ys H->J.yld i H x H'->ys.length < sizeLine->g x σ H' λσ2 H2=>tt σ2 H2 λb H3=>if b=true then te σ2 H3 λy H4=>ys.length < sizeLine/\SH σ2/\Pv (i+1) (ys++[y]) H4 else SH σ2/\Pv (i+1) ys H3)
  (hd:∀ ys H,Pv n ys H->Q H ys) :
  Wlk J [] (blk own fr σ) H (λys _ H=>Q H ys) g tt (tbL te) :=
 vB n SH Pv hσ h0 hstop hgo (λi ys σ x H H' hi sh p y=>hs i ys σ x H H' hi sh p y (by have:=hlen i ys H p; omega)) hd
theorem jT (SH:St->Prop) (Pv:Nat->List V->Hp->Prop) (hn:xs.length<=sizeLine) (hσ:SH (blk own fr σ)) (h0:Pv 0 [] H) (hlen:∀ i ys H,Pv i ys H->ys.length<=i) (hl:∀ i ys H,Pv i ys H->SqT K H a xs) (hs:∀ i ys σ x H,xs[i]?=some x->SH σ->Pv i ys H->ys.length < sizeLine->g x σ H λσ2 H2=>tt σ2 H2 λb H3=>if b=true then te σ2 H3 λy H4=>ys.length < sizeLine/\SH σ2/\Pv (i+1) (ys++[y]) H4 else SH σ2/\Pv (i+1) ys H3) (hd:∀ ys H,Pv xs.length ys H->Q H ys) :
  Wlk (Itt K a) [] (blk own fr σ) H (λys _ H=>Q H ys) g tt (tbL te):=by
 refine nJ xs.length hn SH Pv hσ h0 hlen (λys H p=>⟨xs,hl _ _ _ p,Qh _⟩) (λi ys H hi p=>⟨xs,xs[i],hl _ _ _ p,Qc hi⟩) (λi ys σ x H H' hi sh p y hz=>?_) hd
 obtain ⟨e,y⟩:=y
 subst e
 exact hs i ys σ x _ (y xs (hl _ _ _ p)) sh p hz
theorem jU (SH:St->Prop) (Pv:Nat->List V->Hp->Prop) (hn:xs.length<=sizeLine) (hσ:SH (blk own fr σ)) (h0:Pv 0 [] H) (hlen:∀ i ys H,Pv i ys H->ys.length<=i) (hl:∀ i ys H,Pv i ys H->SqL K H a xs) (hs:∀ i ys σ x H,xs[i]?=some x->SH σ->Pv i ys H->ys.length < sizeLine->g x σ H λσ2 H2=>tt σ2 H2 λb H3=>if b=true then te σ2 H3 λy H4=>ys.length < sizeLine/\SH σ2/\Pv (i+1) (ys++[y]) H4 else SH σ2/\Pv (i+1) ys H3) (hd:∀ ys H,Pv xs.length ys H->Q H ys) :
  Wlk (Itl K a) [] (blk own fr σ) H (λys _ H=>Q H ys) g tt (tbL te):=by
 refine nJ xs.length hn SH Pv hσ h0 hlen (λys H p=>⟨xs,hl _ _ _ p,Qh _⟩) (λi ys H hi p=>⟨xs,xs[i],hl _ _ _ p,Qc hi⟩) (λi ys σ x H H' hi sh p y hz=>?_) hd
 obtain ⟨e,y⟩:=y
 subst e
 exact hs i ys σ x _ (y xs (hl _ _ _ p)) sh p hz
theorem dZ {n:Nat} (SH:St->Prop) (Pv:Nat->List V->Hp->Prop) (hn:n<=sizeLine) (hσ:SH (blk own fr σ)) (h0:Pv 0 [] H) (hlen:∀ i ys H,Pv i ys H->ys.length<=i) (hs:∀ i ys σ H,i < n->SH σ->Pv i ys H->ys.length < sizeLine->g (.int (lo+i)) σ H λσ2 H2=>tt σ2 H2 λb H3=>if b=true then te σ2 H3 λy H4=>ys.length < sizeLine/\SH σ2/\Pv (i+1) (ys++[y]) H4 else SH σ2/\Pv (i+1) ys H3) (hd:∀ ys H,Pv n ys H->Q H ys) :
  Wlk (Itr lo n) [] (blk own fr σ) H (λys _ H=>Q H ys) g tt (tbL te):=by
 refine nJ n hn SH Pv hσ h0 hlen (λys H p=>Qh _) (λi ys H hi p=>hi) (λi ys σ x H H' hi sh p y hz=>?_) hd
 obtain ⟨e,y⟩:=y
 subst e y
 exact hs i ys σ _ hi sh p hz
theorem aC6 (SH:St->Prop) (Pv:Nat->List V->Hp->Prop) (hn:xs.length<=sizeLine) (heq:xs.length=ys.length) (hσ:SH (blk own fr σ)) (h0:Pv 0 [] H) (hlen:∀ i zs H,Pv i zs H->zs.length<=i) (hl:∀ i zs H,Pv i zs H->SqK k1 K H a xs/\SqK k2 K H b ys) (hs:∀ i zs σ x y p H,xs[i]?=some x->ys[i]?=some y->SH σ->Pv i zs H->H p=none->zs.length < sizeLine->g (.ref p) σ (upd H p (.tup [x,y])) λσ2 H2=>tt σ2 H2 λc H3=>if c=true then te σ2 H3 λy H4=>zs.length < sizeLine/\SH σ2/\Pv (i+1) (zs++[y]) H4 else SH σ2/\Pv (i+1) zs H3) (hd:∀ zs H,Pv xs.length zs H->Q H zs) :
  Wlk (Itz K k1 k2 a b) [] (blk own fr σ) H (λys _ H=>Q H ys) g tt (tbL te):=by
 refine nJ xs.length hn SH Pv hσ h0 hlen (λzs H p=>⟨xs,ys,(hl _ _ _ p).1,(hl _ _ _ p).2,by rw [<- heq,Nat.min_self]⟩) (λi zs H hi p=>⟨xs,ys,xs[i],ys[i]'(by omega),(hl _ _ _ p).1,(hl _ _ _ p).2,Qc hi,Qc (by omega)⟩) (λi zs σ v H H' hi sh p y hz=>?_) hd
 obtain ⟨q,hq,rfl,hy⟩:=y
 obtain ⟨x,y,h1,h2,rfl⟩:=hy xs ys (hl _ _ _ p).1 (hl _ _ _ p).2
 exact hs i zs σ x y q H h1 h2 sh p hq hz
end
def aHg (i j:Int):Prop:=0 < j/\j < 1267650600228229401496703205376
theorem aC7:OpR X (binaryOp .FloorDiv) (rI aHg λi j=>.int (i / j)):=opI λi j _ _ _ _ _ hc q=>by
 have h1:(0:Int) < j:=hc.1
 have h2:j < 1267650600228229401496703205376:=hc.2
 refine floordiv_int (by omega) (by rw [Int.fdiv_eq_ediv_of_nonneg i (by omega)]; exact q) (.inl (PyProof.noPylong_of_log2 ?_))
 have h3:j.natAbs.log2 < 100:=(Nat.log2_lt (by omega)).mpr (by omega)
 omega
theorem xI {f g:α->Option β}:∀ {l:List α},(∀ x∈l,f x=g x)->l.filterMap f=l.filterMap g
 | [],_=>rfl
 | x::r,h=>by rw [Zp,Zp,h x (Qj ..),xI λy hy=>h y (Qk _ hy)]
theorem aC8 (xs:Array Value):((List.range xs.size).filterMap λ(k:Nat)=>xs[((xs.size:Int) - 1+(k:Int)*(-1)).toNat]?).toArray=xs.toList.reverse.toArray:=by
 have h:=HT.pick_gen xs.toList.reverse.toArray 0 xs.size
 have e:(List.range xs.size).filterMap (λ(k:Nat)=>xs[((xs.size:Int) - 1+(k:Int)*(-1)).toNat]?)=(List.range xs.size).filterMap (λ(m:Nat)=>xs.toList.reverse.toArray[(((0:Nat):Int)+(m:Int)*1).toNat]?):=by
  refine xI λk hk=>?_
  have hk':=Jw.mp hk
  have h1:((xs.size:Int) - 1+(k:Int)*(-1)).toNat=xs.size - 1 - k:=by omega
  have h2:(((0:Nat):Int)+(k:Int)*1).toNat=k:=by omega
  rw [h1,h2]
  simp only [List.getElem?_toArray]
  rw [List.getElem?_reverse (by simpa using hk')]
  simp
 rw [e,h]
 congr 1
 rw [Wa,Jq (by simp)]
def Vw (S:List Addr) (H:Hp):Hp:=λb=>if b∈S then none else H b
theorem Vw.out (n:b∉S):Vw S H b=H b:=by unfold Vw; rw [if_neg n]
theorem Vw.sub:aD (Vw S H) H:=λb o h=>by
 by_cases z:b∈S
 ·unfold Vw at h; rw [if_pos z] at h; cases h
 ·rw [Vw.out z] at h; exact h
theorem Vw.keep (e:∀ b o,b∉S->H b=some o->H' b=some o):aD (Vw S H) (Vw S H'):=λb o h=>by
 by_cases z:b∈S
 ·unfold Vw at h; rw [if_pos z] at h; cases h
 ·rw [Vw.out z] at h ⊢; exact e b o z h
theorem Vw.same (e:aD H H'):aD (Vw S H) (Vw S H'):=Vw.keep λb o _ h=>e b o h
def Fx (S:List Addr) (H:Hp):Prop:=∀ b∈S,∃ xs,H b=some (.lst xs)
theorem Fx.same (f:Fx S H) (e:aD H H'):Fx S H':=λb hb=>let ⟨xs,h⟩:=f b hb; ⟨xs,e b _ h⟩
theorem Fx.new {p:Addr} (f:Fx S H) (h:H p=none):p∉S:=λz=>by
 obtain ⟨xs,q⟩:=f p z
 rw [q] at h; cases h
theorem Fx.nil:Fx [] H:=λ_ h=>(Qs h).elim
section
theorem Fx.seqT (f:Fx S H) (h:SqT K H a xs):SqT K (Vw S H) a xs:=by
 rcases h with (h | ⟨o,h⟩) | h
 ·exact .inl (.inl (by rw [Vw.out λz=>by obtain ⟨ys,q⟩:=f a z; rw [q] at h; cases h]; exact h))
 ·exact .inl (.inr ⟨o,by rw [Vw.out λz=>by obtain ⟨ys,q⟩:=f a z; rw [q] at h; cases h]; exact h⟩)
 ·exact .inr h
theorem Vw.at {p:Addr} {o:HO} (f:Fx S H) (h:H p=none):Vw S (upd H p o) p=some o:=by rw [Vw.out (f.new h)]; exact aB
def Dn (K:Rc) (S:List Addr) (H:Hp) (x:V):Prop:=∃ d,Den K (Vw S H) d x
def DT (K:Rc) (S:List Addr) (n:Nat) (H:Hp) (x:V):Prop:=∃ a xs,x=.ref a/\SqT K (Vw S H) a xs/\xs.length<=n/\∀ y∈xs,Dn K S H y
def II (_:Hp) (x:V):Prop:=∃ i,x=.int i
class Mo (R:Hp->V->Prop):Prop where
 mo:∀ {H H':Hp} {v:V},aD H H'->R H v->R H' v
theorem Dn.keep (h:Dn K S H x) (e:aD (Vw S H) (Vw S H')):Dn K S H' x:=let ⟨d,h⟩:=h; ⟨d,e.den _ _ h⟩
theorem Dn.same (h:Dn K S H x) (e:aD H H'):Dn K S H' x:=h.keep (Vw.same e)
theorem DT.keep {n:Nat} (h:DT K S n H x) (e:aD (Vw S H) (Vw S H')):DT K S n H' x:=let ⟨a,xs,h1,h2,h3,h4⟩:=h; ⟨a,xs,h1,e.seqT h2,h3,λy hy=>(h4 y hy).keep e⟩
theorem DT.same {n:Nat} (h:DT K S n H x) (e:aD H H'):DT K S n H' x:=h.keep (Vw.same e)
instance:Mo (Dn K S):=⟨λe h=>Dn.same h e⟩
instance {n:Nat}:Mo (DT K S n):=⟨λe h=>DT.same h e⟩
instance:Mo II:=⟨λ_ h=>h⟩
theorem aC9 (i:Int):Dn K S H (.int i):=⟨.int i,cK.mpr rfl⟩
theorem II.dn (h:II H x):Dn K S H x:=let ⟨i,h⟩:=h; h ▸ aC9 i
theorem aDa:∀ {xs:List V},(∀ x∈xs,Dn K S H x)->∃ ds,aT K (Vw S H) ds xs
 | [],_=>⟨[],aO.mpr rfl⟩
 | x::r,h=>by
  obtain ⟨d,hd⟩:=h x (Qj ..)
  obtain ⟨ds,hds⟩:=aDa (xs:=r) λy hy=>h y (Qk _ hy)
  exact ⟨d::ds,aL.mpr ⟨x,r,rfl,hd,hds⟩⟩
theorem DT.dn {n:Nat} (h:DT K S n H x):Dn K S H x:=by
 obtain ⟨a,xs,rfl,h2,_,h4⟩:=h
 obtain ⟨ds,hds⟩:=aDa h4
 exact ⟨.tuple ds,cC.mpr ⟨a,xs,rfl,h2,hds⟩⟩
theorem aEK:∀ x∈l.map V.int,Dn K S H x:=λx hx=>by
 obtain ⟨i,_,rfl⟩:=Qw.mp hx
 exact aC9 i
theorem DT.ints {n:Nat} (f:Fx S H) (h:SqT K H a (l.map V.int)) (hn:l.length<=n):DT K S n H (.ref a):=⟨a,_,rfl,f.seqT h,by rw [Qb]; exact hn,aEK⟩
def Al (H0:Hp) (S:List Addr) (te:TE) (σ:St) (R:Hp->V->Prop):Prop:=∀ H,aD H0 H->Fx S H->∀ Q:VK,(∀ v H',aD H H'->R H' v->Q v H')->te σ H Q
variable {σ:St} {R R':Hp->V->Prop} {tb:TE} {t:TA} {tl th:TO}
theorem Al.mono (h:Al H0 S te σ R) (m:∀ H v,R H v->R' H v):Al H0 S te σ R':=λH s f Q k=>h H s f Q λv H' s' r=>k v H' s' (m H' v r)
theorem Al.i (h:Al H0 S te σ II):Al H0 S te σ (Dn K S):=h.mono λ_ _ r=>r.dn
theorem Al.d {n:Nat} (h:Al H0 S te σ (DT K S n)):Al H0 S te σ (Dn K S):=h.mono λ_ _ r=>r.dn
def aDb (K:Rc):R2:=λx y H Q=>∃ a b xs ys,x=.ref a/\y=.ref b/\SqT K H a xs/\SqT K H b ys/\xs.length+ys.length<=sizeLine/\∀ p H',aD H H'->SqT K H' p (xs++ys)->Q (.ref p) H'
theorem lH (hK:X.K=K):OpR X (binaryOp .Add) (aDb K):=by subst hK; exact qH
def aGo (K:Rc):V->Option Int->Option Int->Hp->VK->Prop:=λx lo hi H Q=>∃ a xs,x=.ref a/\SqT K H a xs/\∀ p H',aD H H'->SqT K H' p (mV xs lo hi)->Q (.ref p) H'
theorem jV (hK:X.K=K):SlR X (aGo K):=by subst hK; exact vA
instance {a:Addr} {xs:List V}:Mo (λH v=>v=.ref a/\SqT K H a xs):=⟨λe h=>⟨h.1,e.seqT h.2⟩⟩
instance {x:V}:Mo (λ_ v=>v=x):=⟨λ_ h=>h⟩
end
open PySem.AutoSeq1 (wpAny_loadPart')
theorem nf {b:Bool} (h:b=false):decide (b=true)=false:=by rw [h]; rfl
theorem nt {b:Bool} (h:b=true):decide (b=true)=true:=by rw [h]; rfl
theorem rC (l:Addr) (items:Array Value) (n:Nat) (dd:Option Addr) (sl:Array (Option Value)) (x:Int) (u:Tok) (h1:1 < x) (h2:x<=1000) (hne:items.isEmpty=false) (hz:items.size<=1000) :
  Meets (Builtin.«tuple.__mul__» ⟨[.ref l,.int x u],[]⟩) (λ_ R s=>s.heap.get? l=some { cls:=.type "tuple",dict:=dd,data:=.seq items n,slots:=sl }/\R (.ok (.ret (Value.ref s.heap.objs.size))) { s with heap:=s.heap.push { cls:=Value.type "tuple",data:=Data.seq (List.foldl (λx1 x2=>x1++x2) #[] (List.replicate x.toNat items)) },toks:=s.toks }) :=
 .of_wp λprog w A R s h=>by
  obtain ⟨hp,g,d,tk,os⟩:=s
  obtain ⟨hl,h⟩:=h
  have f1:=AutoSeq1.idx_int
  have f2:=AutoSeq1.sub_tuple_tuple
  wp_walk using Rr hl
  refine Vf (nf (show (decide (x < -2^63) || decide (x≥2^63))=false from by rw [decide_eq_false (show ¬ x < -2^63 by omega),decide_eq_false (show ¬ x≥2^63 by omega)]; rfl)) ?_
  wp_walk using Rr hl
  refine Vf (nf (show (items.isEmpty || x==1)=false from by rw [hne,beq_eq_false_iff_ne.mpr (show x≠1 by omega)]; rfl)) ?_
  wp_walk using Rr hl
  refine Vf (nf (show (decide (x<=0) || items.isEmpty)=false from by rw [hne,decide_eq_false (show ¬ x<=0 by omega)]; rfl)) ?_
  wp_walk using Rr hl
  have hm:(items.size:Int)*x<=1000*1000:=Int.mul_le_mul (by omega) h2 (by omega) (by omega)
  refine Vf (decide_eq_false (show ¬ (items.size:Int)*x > (2^63 - 1) / 8 by omega)) ?_
  wp_walk using Rr hl
  refine Vf (nf (show decide ((items.size:Int)*x > (sizeLine:Int))=false from decide_eq_false (by rw [Rf]; omega))) ?_
  have hsz:¬ (List.foldl (λx1 x2=>x1++x2) #[] (List.replicate x.toNat items)).size > sizeLine:=by
   have e:=lV items.toList x.toNat []
   rw [Zw] at e
   have e2:List.foldl (λx1 x2=>x1++x2) #[] (List.replicate x.toNat items)=(List.replicate x.toNat items.toList).flatten.toArray:=e
   rw [e2,Ql,uY,Array.length_toList,Rf]
   have:x.toNat*items.size<=1000*1000:=Zj (by omega) hz
   omega
  wp_walk using Rr hl
  exact ⟨_,rfl,h⟩
theorem oX:fillsNumberSlot (.type "tuple") "mul" = pure false :=
 PySem.fillsNumberSlot_seq (id := "tuple.__mul__") (r:=some (.builtin "tuple.__rmul__")) PySem.F.slot_tuple_mul.lookup (by decide +kernel) PySem.F.slot_tuple_rmul.lookup (by decide +kernel)
theorem vC:seqRepeat? (.type "tuple")=pure (some (.builtin "tuple.__mul__")):=by
 unfold seqRepeat?
 rw [Rai (T := "tuple") (name := "__mul__") (id := "tuple.__mul__") PySem.F.slot_tuple_mul.lookup (by decide +kernel),Rai (T := "tuple") (name := "__rmul__") (id := "tuple.__rmul__") PySem.F.slot_tuple_rmul.lookup (by decide +kernel)]
 rfl
theorem rD (a:Int) (t:Tok) (l:Addr) (items:Array Value) (n:Nat) (dd:Option Addr) (sl:Array (Option Value)) :
  Meets (Builtin.«int.__rmul__» ⟨[.int a t,.ref l],[]⟩) (λ_ R s=>s.heap.get? l=some { cls:=.type "tuple",dict:=dd,data:=.seq items n,slots:=sl }/\R (.ok (.ret Value.notImplemented)) s) :=
 .of_wp λprog w A R s h=>by
  obtain ⟨hp,g,d,tk,os⟩:=s
  obtain ⟨hl,h⟩:=h
  wp_walk using Rr hl
  exact ⟨_,rfl,h⟩
section
variable {σ:St}
theorem Inv.low (I:Inv X pins σ H s):H sysModules=none:=by
 obtain ⟨mm,o,es,ep,e,_⟩:=I.mod.mods
 exact (I.bs _ _ e).2
end
section
variable {E E':Hp->V->Prop}
def DTe (K:Rc) (S:List Addr) (E:Hp->V->Prop) (n:Nat) (H:Hp) (x:V):Prop:=∃ a xs,x=.ref a/\SqT K (Vw S H) a xs/\xs.length<=n/\∀ y∈xs,E H y
def LTe (S:List Addr) (E:Hp->V->Prop) (n:Nat) (H:Hp) (x:V):Prop:=∃ a xs,x=.ref a/\Vw S H a=some (.lst xs)/\xs.length<=n/\∀ y∈xs,E H y
instance {n:Nat} [m:Mo E]:Mo (DTe K S E n):=⟨λe ⟨a,xs,h1,h2,h3,h4⟩=>⟨a,xs,h1,(Vw.same e).seqT h2,h3,λy hy=>m.mo e (h4 y hy)⟩⟩
instance {n:Nat} [m:Mo E]:Mo (LTe S E n):=⟨λe ⟨a,xs,h1,h2,h3,h4⟩=>⟨a,xs,h1,Vw.same e _ _ h2,h3,λy hy=>m.mo e (h4 y hy)⟩⟩
variable {σ:St} {tb:TE} {t:TA} {tl th:TO}
end
section
variable {env:Env} {kX:List Expr} {k:Nat} {a b c:Expr}
end
theorem mX {z0:Str} {fr:List Nat} (sc:Scope) (N:List Str) (h1:X.env.scope=sc) (h2:X.N=N) (cf:∀ (n:Nat) (cl:List (Str×Addr)),cellsFrom n scope.names cl=(z0,n)::cl) (pc:∀ h:Heap,pushCells h scope.names=h.push { cls:=.type "cell",data:=.cell none }) (h:(jQ sc scope (some z0) own frn && qI N frn fr)=true):CompOk X scope (some z0) own fr frn :=
 xH h1 h2 (λ_ q=>by cases q; exact ⟨cf,pc⟩) h
def aEL (scope sc:Scope):Scope:={ scope with names:=scope.names.map λ(n,k)=>if (k==NameKind.free && sc.kind==.function && sc.names.lookup n==some .cell) then (n,NameKind.cell) else (n,k) }
theorem aBZ (hc:X.calm=true):dM X (.builtin "min") (λxs H Q=>∃ (p:Addr) (ns:List Int),xs = [.ref p]/\SqL X.K H p (ns.map V.int)/\0 < ns.length/\∀ M,M∈ns->(∀ a∈ns,M<=a)->Q (.int M) H):=by
 intro pins s σ H xs us Q I r h
 obtain ⟨p,ns,rfl,hx,hne,q⟩:=h
 obtain ⟨u,rfl,rx⟩:=fX r
 cases rx
 obtain ⟨its,rv,pl,hz⟩:=I.list hx
 have hi:IntsAre its ns:=gM rv
 obtain ⟨xs,e⟩:=hi.allInts.items
 have hns:ns=xs.toList.map (·.1):=by
  rw [<- hi.numsOf,<- nums_intItems,<- e]
 have hsz:0 < xs.size:=by
  have h3:=hne; rw [hns,Qb,Array.length_toList] at h3; exact h3
 have hl:=pl.isList
 rw [e] at hl
 refine min_intList (I.ok.hd hc) hl hsz λv h' tk hv hk=>?_
 obtain ⟨t,rfl⟩:=intItems_at hv
 obtain ⟨h1,h2⟩:=Raz (numAt xs) (xs.size - 1)
 refine ⟨.int _,H,I.kept hk,⟨_,rfl⟩,q _ ?_ λa ha=>?_⟩
 ·rw [hns,numAt_eq]; exact getD_mem (by rw [Qb,Array.length_toList]; omega)
 ·rw [hns] at ha
  obtain ⟨j,hj,rfl⟩:=mem_getD ha
  rw [Qb,Array.length_toList] at hj
  rw [<- numAt_eq]; exact h2 j (by omega)
theorem aHh:bootBuiltins "min" = some (.builtin "min"):=by decide +kernel
section
variable {cd:Value} {s0:Shared} {E:XK}
end
abbrev vbm:List Value:=[.type "ValueError",.type "Exception",.type "BaseException",.type "object"]
def qns:List Str:=["__init__", "__getattribute__", "__getattr__", "__class__"]
inductive TailN (h:Heap) (bmB:List Value):List Value->Prop
 | base:TailN h bmB bmB
 | own {A:Addr} {c0:Value} {dd:Option Addr} {cd:ClassData} {sl:Array (Option Value)} {mA:Str->Option Value} {tl:List Value} :
   h.get? A=some { cls:=c0,dict:=dd,data:=.cls cd,slots:=sl }->h.Ns cd.ns mA->(∀ n∈qns,mA n=none)->TailN h bmB tl->TailN h bmB (.ref A::tl)
theorem TailN.tail {bmB tl:List Value} (T:TailN h bmB tl):OwnTail h bmB tl:=by
 induction T with
 | base=>exact .base
 | own hA hN hq _ ih=>exact .own hA hN (hq _ (.head _)) ih
theorem TailN.keeps {bmB tl:List Value} (T:TailN h bmB tl) (hk:∀ b o,h.get? b=some o->h'.get? b=some o):TailN h' bmB tl:=by
 induction T with
 | base=>exact .base
 | own hA hN hq _ ih=>exact .own (hk _ _ hA) (hN.keeps hk) hq ih
def EcH (h:Heap) (C:Addr) (bm:List Value):Prop:=∃ N nm q bs hdct sn sub ab col dd k0 k1 k2 k3 k5 mN,h.get? C=some (excClassObj nm q C N bs bm hdct sn sub ab col dd k0 k1 k2 k3 k5 "ValueError.__new__")/\h.Ns N mN/\(∀ n∈qns,mN n=none)/\TailN h vbm bm
theorem EcH.keeps (x:EcH h C bm) (hk:∀ b o,h.get? b=some o->h'.get? b=some o):EcH h' C bm:=by
 obtain ⟨N,nm,q,bs,hdct,sn,sub,ab,col,dd,k0,k1,k2,k3,k5,mN,hC,hN,hq,T⟩:=x
 exact ⟨N,nm,q,bs,hdct,sn,sub,ab,col,dd,k0,k1,k2,k3,k5,mN,hk _ _ hC,hN.keeps hk,hq,T.keeps hk⟩
section
variable {g:Array GenState} {d:Drawn} {t:Nat}
theorem EcH.has (x:EcH h C bm) (hb:vbm.contains (.type T)=true):(Value.ref C::bm).contains (.type T)=true:=by
 obtain ⟨N,nm,q,bs,hdct,sn,sub,ab,col,dd,k0,k1,k2,k3,k5,mN,hC,hN,hmN,TT⟩:=x
 rw [List.contains_cons,TT.tail.hasType hb,Bool.or_true]
end
section
variable {l:List Env} {E:XK} {T:Addr}
end
section
variable {σ:St} {E:XK} {e:Value} {F:Value->Shared->Prop} {L:Addr}
end
section
variable {g:Array GenState} {d:Drawn} {t:Nat} {C':Addr} {oe:Obj} {bm':List Value}
end
section
variable {k:Nat} {dvs:List V} {ds:List Value} {x:Str} {t:TA}
end
structure PEo (X:Cx) (e:Expr) (t:TE):Prop where
 go:PE X e t
structure PAo (X:Cx) (es:List Expr) (t:TA):Prop where
 go:PA X es t
structure PSo (X:Cx) (st:Stmt) (t:TS):Prop where
 go:PS X st t
structure PSso (X:Cx) (sts:List Stmt) (t:TS):Prop where
 go:PSs X sts t
section
variable {a b:Expr} {tb:TE} {t:TA} {kX:List Stmt} {ts us:TS}
end
def tDt (K:Rc) (Z:List Addr) (S:St->Prop) (d:PyData):TE:=λσ H Q=>S σ/\Fx Z H/\∀ v H',aD H H'->Den K (Vw Z H') d v->Q v H'
def tDA (K:Rc) (Z:List Addr) (S:St->Prop) (ds:List PyData):TA:=λσ H Q=>S σ/\Fx Z H/\∀ vs H',aD H H'->aT K (Vw Z H') ds vs->Q vs H'
structure Dt (X:Cx) (K:Rc) (Z:List Addr) (S:St->Prop) (e:Expr) (d:PyData):Prop where
 go:PE X e (tDt K Z S d)
structure DA (X:Cx) (K:Rc) (Z:List Addr) (S:St->Prop) (es:List Expr) (ds:List PyData):Prop where
 go:PA X es (tDA K Z S ds)
section
variable {Z:List Addr} {S:St->Prop} {a b:Expr} {d:PyData}
theorem PE.imp {t t':TE} (h:PE X e t) (q:∀ σ H Q,t' σ H Q->t σ H Q):PE X e t':=λpins s σ H Q I z=>h pins s σ H Q I (q σ H Q z)
theorem PA.imp {t t':TA} (h:PA X es t) (q:∀ σ H Q,t' σ H Q->t σ H Q):PA X es t':=λpos pins s σ H Q I z=>h pos pins s σ H Q I (q σ H Q z)
theorem PSso.ex {sts:List Stmt} {t:TS} {R:TS->Prop} (h:PSso X sts t) (r:R t):∃ t,PSs X sts t/\R t:=⟨t,h.go,r⟩
end
section
variable {l:Expr}
end
def mK:List Int->Nat
 | []=>0
 | k::r=>if k∈r then mK r else mK r+1
def kZ (l:List Int):Nat:=mK l.reverse
theorem aB0 (l:List Int) (k:Int):kZ (l++[k])=if k∈l then kZ l else kZ l+1:=by
 unfold kZ
 rw [Qae]
 show mK (k::l.reverse)=_
 simp only [mK,List.mem_reverse]
theorem rE:∀ l:List Int,mK l<=l.length
 | []=>Qh _
 | k::r=>by
  have:=rE r
  unfold mK
  split <;> simp <;> omega
theorem aEM (l:List Int):kZ l<=l.length:=by
 have:=rE l.reverse
 rwa [Yy] at this
theorem pW:∀ l:List Int,mK l=l.length↔l.Nodup
 | []=>by simp [mK]
 | k::r=>by
  have h1:=pW r
  have h2:=rE r
  unfold mK
  rw [Xf,<- h1,Ja]
  by_cases hk:k∈r
  ·rw [if_pos hk]
   constructor
   ·intro h; omega
   ·intro h; exact absurd hk h.1
  ·rw [if_neg hk]
   constructor
   ·intro h; exact ⟨hk,by omega⟩
   ·intro h; omega
theorem zY (l:List Int):kZ l=l.length↔l.Nodup:=by
 have h:=pW l.reverse
 rw [Yy] at h
 unfold kZ
 rw [h]
 unfold List.Nodup
 rw [List.pairwise_reverse]
 constructor <;> intro h <;> exact h.imp λz=>Ne.symm z
theorem aB1 {S:Int->Bool} {n:Nat} {k:Int} {t:Tok} {Q:Bool->Shared->Prop} (hS:s.heap.SetOf (intKind prog w) a S n) (hroom:n+1 < scanBound) (h:∀ h',Heap.SameBut a s.heap h'->h'.SetOf (intKind prog w) a (λk'=>S k' || decide (k'=k)) (if S k then n else n+1)->Q (!S k) { s with heap:=h',toks:=s.toks+1 }) :
  wpAny (model prog w) A (setAdd a (.int k t)) Q E s:=by
 have hkey:(intKind prog w).is k (.int k t)=true:=by simp [intKind,Value.isInt]
 unfold setAdd
 refine Ra ((intKind prog w).pyHash hkey ?_)
 exact wpAny_setAddHashed_of (s:={ s with toks:=s.toks+1 }) hkey rfl hS hroom λh' hsb hS'=>h h' hsb hS'
theorem aDc {S:Addr} {wr:List Addr} {P:Nat->Value->Prop} {St:Nat->Heap->Prop} (W:Walks prog w A.in1 I fp wr ns.length P St) (hP:∀ i v,P i v->∃ k t,ns[i]?=some k/\v=.int k t) (hfp:∀ c∈fp,c≠S) (hwr:S∉wr) (hlen:ns.length+1 < scanBound) :
  ∀ (j i:Nat) (s:Shared),i+j=ns.length->St i s.heap->s.heap.SetOf (intKind prog w) S (λk=>decide (k∈ns.take i)) (kZ (ns.take i)) ->
   (∀ h' tk,h'.SetOf (intKind prog w) S (λk=>decide (k∈ns)) (kZ ns)->(∀ b o,b≠S->b∉wr->s.heap.get? b=some o->h'.get? b=some o)->R (.ok (.ret .none)) { s with heap:=h',toks:=tk }) ->
   codeAny (model prog w) A (.builtin "set.update.loop" ⟨[.ref S,.ref I],[]⟩) R s:=by
 intro j
 induction j with
 | zero =>
  intro i s hi st hS h
  have e:i=ns.length:=by omega
  subst e
  rw [Jf] at hS
  refine xE W st λh' tk k=>h h' tk ?_ λb o _ hb e=>k b o hb e
  obtain ⟨o,es,ep,t,e,c⟩:=hS
  exact ⟨o,es,ep,t,k _ _ hwr e,c⟩
 | succ j ih =>
  intro i s hi st hS h
  refine xD W (i:=i) (by omega) st λv h2 tk2 hv st2 k2=>?_
  obtain ⟨k,t,hk,rfl⟩:=hP i v hv
  have hS2:h2.SetOf (intKind prog w) S (λk=>decide (k∈ns.take i)) (kZ (ns.take i)):=by
   obtain ⟨o,es,ep,t,e,c⟩:=hS
   exact ⟨o,es,ep,t,k2 _ _ hwr e,c⟩
  have hd:=aEM (ns.take i)
  rw [Qv] at hd
  refine aB1 (s:={ s with heap:=h2,toks:=tk2 }) hS2 (by omega) λh3 sb hS3=>?_
  have et:ns.take (i+1)=ns.take i++[k]:=by rw [Jd,hk]; rfl
  refine ih (i+1) _ (by omega) (W.frame _ _ _ st2 λc hc o e=>(sb.2 c (hfp c hc)).trans e) ?_ λh' tk hS' kp=>?_
  ·have e1:(λk_1=>decide (k_1∈ns.take (i+1)))=(λk'=>decide (k'∈ns.take i) || decide (k'=k)):=by
    funext k'
    rw [et]
    simp
   have e2:kZ (ns.take (i+1))=if decide (k∈ns.take i)=true then kZ (ns.take i) else kZ (ns.take i)+1:=by
    rw [et,aB0]
    by_cases z:k∈ns.take i
    ·rw [if_pos z,if_pos (decide_eq_true z)]
    ·rw [if_neg z,if_neg (by simpa using z)]
   rw [e1,e2]
   exact hS3
  ·exact h h' tk hS' λb o nb hb e=>kp b o nb hb ((sb.2 b nb).trans (k2 b o hb e))
set_option maxHeartbeats 3200000 in
theorem sW {l:Addr} {its:Array Value} (hh:A.handled=none) (hl:s.heap.IsList l its) (hi:IntsAre its.toList ns) (hlen:ns.length+1 < scanBound) (h:∀ (h':Heap) (tk:Nat),h'.SetOf (intKind prog w) s.heap.objs.size (λk=>decide (k∈ns)) (kZ ns)->(∀ b o,b < s.heap.objs.size->s.heap.get? b=some o->h'.get? b=some o)->Q (.ref s.heap.objs.size) { s with heap:=h',toks:=tk }) :
  wpAny (model prog w) A (call (.type "set") [.ref l]) Q E s:=by
 obtain ⟨c,tl,hmro⟩:=PySem.F.called_set.mro
 have hmade:=PySem.F.called_set.made
 have hsub:=PySem.F.called_set.sub
 refine Im (Vu ?_)
 show wpAny _ _ (callAny (.type "set") _) _ _ _
 refine Rb ⟨Code.quiet_builtin _ (by decide +kernel),Ta Md ?_⟩
 rw [Around.under_plain (Ral "set" [.ref l] []) rfl]
 have h1:=PySem.F.called_set.notType
 have h2:=PySem.F.called_set.canCreate
 have hct:=Mi (.ref l)
 repeat (any_goals (first | assumption | wp_step))
 refine Uo (lG (.ref l) (E:=E) (Q₁:=λobj s1x=>obj=.ref s.heap.objs.size/\s1x={ s with heap:=s.heap.push { cls:=.type "set",dict:=none,data:=.set #[] 0 (.fresh 0 0 (Led w)) } }) ⟨rfl,rfl⟩) λr s1x hr=>?_
 cases r with
 | error e=>exact hr
 | ok fl =>
  cases fl with
  | ret obj =>
   obtain ⟨rfl,rfl⟩:=hr
   generalize hled:Led w=led at h ⊢
   have hS:(s.heap.push { cls:=.type "set",dict:=none,data:=.set #[] 0 (.fresh 0 0 led) }).get? s.heap.objs.size=some { cls:=.type "set",dict:=none,data:=.set #[] 0 (.fresh 0 0 led) }:=Qg _ rfl
   have hT:Shared.TypeIs { s with heap:=s.heap.push { cls:=.type "set",dict:=none,data:=.set #[] 0 (.fresh 0 0 led) } } (.ref s.heap.objs.size) "set" := ⟨_,hS,rfl⟩
   have hli:=PySem.F.called_set.init.lookup
   have hbi:=PySem.F.called_set.init.bind (.ref s.heap.objs.size)
   repeat (any_goals (first | assumption | wp_step))
   refine Uo (Vz (R:=wants (λr s2x=>r=.none/\∃ h' tk,s2x={ s with heap:=h',toks:=tk }/\h'.SetOf (intKind prog w) s.heap.objs.size (λk=>decide (k∈ns)) (kZ ns) /\
     (∀ b o,b < s.heap.objs.size->s.heap.get? b=some o->h'.get? b=some o)) E) PySem.F.called_set.init.plain Mj (RaH hT ?_)) λr2x s2x hr2x=>?_
   ·obtain ⟨ol,hol,hcl,nl,hdl⟩:=hl
    obtain ⟨ocls,odict,odata,oslots⟩:=ol
    simp only at hcl hdl
    subst hcl; subst hdl
    have hol':(s.heap.push { cls:=.type "set",dict:=none,data:=.set #[] 0 (.fresh 0 0 led) }).get? l=some { cls:=.type "list",dict:=odict,data:=.seq its nl,slots:=oslots }:=Qa _ hol
    have hsls:=Mt
    have hslf:=Iu
    have hne:(Value.type "list" == Value.type "dict")=false:=by decide
    have hl1:(s.heap.push { cls:=.type "set",dict:=none,data:=.set #[] 0 (.fresh 0 0 led) }).IsList l its:=⟨_,hol',rfl,nl,rfl⟩
    unfold Builtin.«set.__init__» noKeywords Builtin.Frozenset.updateFrom
    generalize hPI:pyIter=PI
    wp_walk
    subst hPI
    refine Tq hl1 ?_
    refine Ra (Mv ?_)
    have hlS:l < s.heap.objs.size:=Qm hol
    have hh3:A.in1.in1.in1.handled=none:=by simp [hh]
    generalize hH1:s.heap.push { cls:=.type "set",dict:=none,data:=.set #[] 0 (.fresh 0 0 led) }=H1 at *
    have szH1:H1.objs.size=s.heap.objs.size+1:=by rw [<- hH1,Jk]
    have hneI:l≠H1.objs.size:=by rw [szH1]; exact Qz (Jx hlS)
    have W:=Walks.list (prog:=prog) (w:=w) hh3 H1.objs.size l hneI its
    have hsz:its.size=ns.length:=by rw [<- hi.length,Array.length_toList]
    rw [hsz] at W
    generalize hS0:s.heap.objs.size=S at *
    have SI:S≠H1.objs.size:=by omega
    have lS:l≠S:=Qz hlS
    refine aDc W (λi v hv=>?_) (λc hc=>?_) (by simpa using SI) hlen ns.length 0 _ (by omega) ⟨⟨_,Qg _ rfl,rfl,rfl⟩,hl1.push _⟩ ?_ λh6 tk6 x6 k6=>?_
    ·have hv':its[i]?=some v:=hv
     have hil:i < its.toList.length:=by
      rw [Array.length_toList]
      exact (Array.getElem?_eq_some_iff.mp hv').1
     have e1:its.toList[i]?=some v:=by rw [Array.getElem?_toList]; exact hv'
     obtain ⟨k,t,e2,e3⟩:=IntsAre.at hi i v e1
     exact ⟨k,t,e3,e2⟩
    ·rcases Qn.mp hc with z | z
     ·rw [z]; exact Ne.symm SI
     ·have z':c=l:=by simpa using z
      rw [z']; exact lS
    ·refine ⟨_,#[],0,_,Qa _ hS,⟨rfl,rfl,rfl⟩,rfl,λe he=>by simp at he,λk=>by simp,by decide,by rfl,rfl⟩
    ·show wpAny _ _ _ _ _ _
     refine Rb ?_
     show wpAny _ _ (ret Value.none) _ _ _
     refine Rb ⟨rfl,h6,tk6,rfl,x6,λc o hc e=>?_⟩
     have c1:c≠S:=Qz hc
     have c2:c∉[H1.objs.size]:=by
      intro z
      have z':c=H1.objs.size:=by simpa using z
      omega
     exact k6 c o c1 c2 (Qa _ (hH1 ▸ Qa _ e))
   ·cases r2x with
    | error e=>exact hr2x
    | ok fl2 =>
     cases fl2 with
     | ret r =>
      obtain ⟨rfl,h',tk,rfl,hS',hk'⟩:=hr2x
      repeat (any_goals (first | assumption | wp_step))
      exact h _ _ hS' hk'
     | _=>exact hr2x.elim
  | _=>exact hr.elim
theorem oY:∀ {vs:List Value} {ns:List Int},bK (ns.map V.int) vs->IntsAre vs ns
 | [],[],_=>.nil
 | v::vs,n::ns,h=>by
  cases h with
  | cons r t =>
   obtain ⟨k,rfl⟩:=r
   exact .cons n k (oY t)
 | [],n::ns,h=>by cases h
 | v::vs,[],h=>by cases h
theorem aB2 (hK:X.K=K) (hc:X.calm=true):dM X (.type "set") (λxs H Q=>∃ (l:Addr) (ns:List Int),xs = [.ref l]/\SqL K H l (ns.map V.int)/\ns.length<=40/\∀ p,H p=none->Q (.ref p) (upd H p (.set (λk=>decide (k∈ns)) (kZ ns)))):=by
 subst hK
 intro pins s σ H xs us Q I r h
 obtain ⟨l,ns,rfl,hL,hn,q⟩:=h
 obtain ⟨u,rfl,rx⟩:=fX r
 cases rx
 obtain ⟨its,rv,pl,hz⟩:=I.list hL
 refine sW (I.ok.hd hc) pl.isList (oY rv) (Yf (Yb hn) (by decide)) λh' tk x kp=>?_
 have kp':∀ b o,s.heap.get? b=some o->h'.get? b=some o:=λb o e=>kp b o (Qm e) e
 have hf:=I.hok.fresh (Qh s.heap.objs.size)
 exact ⟨.ref s.heap.objs.size,_,I.laid (t':=tk) kp' (Qh _) (show bN X.prog X.w _ _ _ (.set _ _) from x),rfl,q _ hf⟩
theorem sX:dM X (.builtin "len") (λxs H Q=>∃ p S n,xs = [.ref p]/\H p=some (.set S n)/\Q (.int (n:Nat)) H):=by
 intro pins s σ H xs us Q I r h
 obtain ⟨p,S,n,rfl,hp,q⟩:=h
 obtain ⟨u,rfl,rx⟩:=fX r
 cases rx
 obtain ⟨o,es,ep,t,ho,hex,hd,_,_,hb,hf,hn⟩:=I.hok p _ hp
 subst hn
 have hb':es.size < 2^20:=Yq hb (by decide)
 have:(2:Int)^63=9223372036854775808:=by decide
 have:(2:Nat)^20=1048576:=by decide
 exact PySem.call_len_set ho hex hd hf (by omega) ⟨.int es.size,H,I.tok _,⟨_,rfl⟩,q⟩
section
variable {e l:Addr} {n:Nat} {P:Nat->Value->Prop} {st:Nat->Heap->Prop}
theorem aDd {i:Nat} {old:Value} (S:Sub prog w it l n P st) (hei:e≠it) (hel:l≠e) (he:IsEnum s.heap e it i old) (h1:st i s.heap) (hi:i < n) (hQ:∀ h' x tk,P i x->IsEnumOut h' e it ((i:Int)+1) x s.heap.objs.size->st (i+1) h'->h'.get? s.heap.objs.size=some { cls:=.type "tuple",data:=.seq #[.int i tk,x] } ->
   (∀ c o,c≠e->c≠it->s.heap.get? c=some o->h'.get? c=some o)->Q (.ref s.heap.objs.size) { s with heap:=h',toks:=s.toks+1 }) :
  wpAny (model prog w) A (Builtin.«enumerate.__next__» ⟨[.ref e],[]⟩) (λfin s'=>∃ v,fin=.done (.ret v)/\Q v s') E s:=by
 refine Ra (m:=field (.ref e) 2) (Ri he rfl (x:=.ref it) rfl ?_)
 refine Ra (m:=Builtin.SmallTypes.nextOf (.ref it)) (S.item _ i _ _ _ hi h1 λx g1 px t1 b1=>?_)
 have e1:IsEnum g1 e it i old:=b1.extBut _ _ hei he
 refine Ra (m:=field (.ref e) 3) (Ri e1 rfl (x:=rawInt i) rfl ?_)
 refine Ra (m:=field (.ref e) 4) (Ri e1 rfl (x:=.none) rfl ?_)
 refine Ra (m:=mkInt i) (wpAny_mkInt ?_)
 refine Ra (m:=setField (.ref e) 3 (rawInt ((i:Int)+1))) (Rg e1 (by simp) λg2 e2 b2=>?_)
 have e2':IsEnum g2 e it ((i:Int)+1) old:=e2
 refine Ra (m:=setField (.ref e) 4 .none) (Rg e2' (by simp) λg3 e3 b3=>?_)
 have e3':IsEnum g3 e it ((i:Int)+1) old:=e3
 refine Ra (m:=newTuple [.int i s.toks,x]) (Vi ?_)
 have sz:g3.objs.size=s.heap.objs.size:=by rw [b3.1,b2.1,b1.1]
 have e4:IsEnum (g3.push { cls:=.type "tuple",data:=.seq #[.int i s.toks,x] }) e it ((i:Int)+1) old:=Qa _ e3'
 have T4:(g3.push { cls:=.type "tuple",data:=.seq #[.int i s.toks,x] }).get? s.heap.objs.size=some { cls:=.type "tuple",data:=.seq #[.int i s.toks,x] }:=by rw [<- sz]; exact Qg _ rfl
 have kp4:∀ c o,c≠e->c≠it->s.heap.get? c=some o->(g3.push { cls:=.type "tuple",data:=.seq #[.int i s.toks,x] }).get? c=some o:=λc o c1 c2 q =>
  Qa _ (b3.extBut _ _ c1 (b2.extBut _ _ c1 (b1.extBut _ _ c2 q)))
 have t4:st (i+1) (g3.push { cls:=.type "tuple",data:=.seq #[.int i s.toks,x] }):=S.keep _ _ _ t1 λc hc o q=>by
  have c1:c≠e:=by rcases hc with r | r <;> rw [r]; exact Ne.symm hei; exact hel
  exact Qa _ (b3.extBut _ _ c1 (b2.extBut _ _ c1 q))
 have elt:s.heap.objs.size≠e:=Xm (Qm he)
 rw [sz]
 generalize g3.push { cls:=.type "tuple",data:=.seq #[.int i s.toks,x] }=g4 at e4 T4 kp4 t4 ⊢
 refine Ra (m:=Builtin.SmallTypes.ownedTupleIsFree (.ref e)) ?_
 unfold Builtin.SmallTypes.ownedTupleIsFree
 refine Ra (Ri e4 rfl (x:=.none) rfl (Rb ?_))
 simp only [if_true]
 refine Ra (Tu ?_)
 refine Ra (Ri e4 rfl (x:=old) rfl ?_)
 refine Ra (Rg e4 (by simp) λg5 e5 b5=>?_)
 have e5':IsEnum g5 e it ((i:Int)+1) x:=e5
 refine Ra (m:=Builtin.SmallTypes.ownedTupleHandOut (.ref e) (.ref s.heap.objs.size)) ?_
 unfold Builtin.SmallTypes.ownedTupleHandOut
 refine Ra (Rg e5' (by simp) λg6 e6 b6=>?_)
 have e6':IsEnumOut g6 e it ((i:Int)+1) x s.heap.objs.size:=e6
 refine Rg e6' (by simp) λg7 e7 b7=>?_
 have e7':IsEnumOut g7 e it ((i:Int)+1) x s.heap.objs.size:=e7
 have up:∀ c o,c≠e->g4.get? c=some o->g7.get? c=some o:=λc o c1 q=>b7.extBut _ _ c1 (b6.extBut _ _ c1 (b5.extBut _ _ c1 q))
 refine Ra (Th (Rb ⟨_,rfl,hQ g7 x s.toks px e7' ?_ (up _ _ elt T4) λc o c1 c2 q=>up c o c1 (kp4 c o c1 c2 q)⟩))
 exact S.keep _ _ _ t4 λc hc o q=>up c o (by rcases hc with r | r <;> rw [r]; exact Ne.symm hei; exact hel) q
theorem aEN {old:Value} {Q:Fin->Shared->Prop} (hh:A.handled=none) (S:Sub prog w it l n P st) (he:IsEnum s.heap e it n old) (h1:st n s.heap)
  (hE:∀ h' x,Heap.ExtBut it s.heap h'->(∃ o,h'.get? x=some o/\o.cls=.type "StopIteration")->E (.ref x) { s with heap:=h' }) :
  wpAny (model prog w) A (Builtin.«enumerate.__next__» ⟨[.ref e],[]⟩) Q E s:=by
 refine Ra (m:=field (.ref e) 2) (Ri he rfl (x:=.ref it) rfl ?_)
 exact Ra (m:=Builtin.SmallTypes.nextOf (.ref it)) (S.done _ _ _ _ hh h1 hE)
end
def Ite (K:Rc) (k:Sk) (a:Addr):It :=
 ⟨λi H => ∃ xs x, SqK k K H a xs /\ xs[i]? = some x,
  λi H v H'=>∃ p,H p=none/\v=.ref p/\∀ xs,SqK k K H a xs->∃ x,xs[i]?=some x/\H'=upd H p (.tup [.int (i:Nat),x]),
  λi H=>∃ xs,SqK k K H a xs/\xs.length=i⟩
theorem aB3 {x1} (k:Sk) (a e it:Addr) (hei:e≠it) :
  Turn P w K (.Tuple es x1 pos) (Ite K k a) [e,it] e (λi h=>(∃ old,IsEnum h e it i old)/\ItK k h it a i) where
 mem:=by simp
 obj:=λi h st c hc=>by
  obtain ⟨⟨old,he⟩,h1⟩:=st
  simp only [Qn,Qs,or_false] at hc
  rcases hc with rfl | rfl
  ·exact ⟨_,he,λv q=>by cases q⟩
  ·exact h1.obj
 keep:=λi h h' st kp=>by
  obtain ⟨⟨old,he⟩,h1⟩:=st
  exact ⟨⟨old,kp e (by simp) _ he⟩,h1.at λo q=>kp it (by simp) o q⟩
 item:=by
  intro X hP hw hK hc i pins s σ H E I hf st hg
  subst hP hw hK
  obtain ⟨⟨old,he⟩,h1⟩:=st
  obtain ⟨xs,x,ha,hx⟩:=hg
  obtain ⟨its,rv,pa⟩:=I.seqK ha
  obtain ⟨u,hu,ru⟩:=rv.get hx
  have na:∀ c∈[e,it],a≠c:=λc hc'=>I.seq_ne ha (hf c hc')
  have hT:s.TypeIs (.ref e) "enumerate" := ⟨_,he,rfl⟩
  have hi1:i < its.toArray.size:=by rw [Ql]; exact (Qd.mp hu).1
  unfold pyNext
  refine Ra (Rx (Rh (name:=Str.ofString "__next__") hT Rq (Rj Rq hT Tw
   (aDd (sV k X.prog X.w it a its.toArray (na it (by simp))) hei (na e (by simp)) he ⟨h1,pa⟩ hi1 λh' u' tk pu he' s1 hT' kp=>Rb ?_) (Ts _))))
  have eu:u'=u:=by
   have q:its[i]?=some u':=by simpa using pu
   rw [hu] at q
   exact (Option.some.inj q).symm
  subst eu
  refine ⟨_,rfl,Mx he' λh2 he2 sb2=>?_⟩
  have Te:s.heap.objs.size≠e:=Xm (Qm he)
  have hT2:h2.get? s.heap.objs.size=some { cls:=.type "tuple",data:=.seq #[.int i tk,u'] }:=sb2.extBut _ _ Te hT'
  have hf0:=I.hok.fresh (Qh s.heap.objs.size)
  have fz:=I.fpOk (Qh s.heap.objs.size) hf0
  have I2:Inv X pins σ H { s with heap:=h2,toks:=s.toks+1 }:=by
   refine I.turnedL (t':=s.toks+1) [e,it] (λc o hc' q=>?_) hf
   simp only [Qn,Qs,or_false,not_or] at hc'
   exact sb2.extBut _ _ hc'.1 (kp c o hc'.1 hc'.2 q)
  have I3:Inv X pins σ (upd H s.heap.objs.size (.tup [.int (i:Nat),x])) { s with heap:=h2,toks:=s.toks+1 }:=by
   refine I2.trackO (show bN X.prog X.w _ _ _ (.tup [.int (i:Nat),x]) from ⟨by show 2<=sizeLine; rw [Rf]; decide,[.int i tk,u'],0,.cons ⟨tk,rfl⟩ (.cons ru .nil),hT2⟩) hf0 fz.2.1 I.sz fz.2.2.2.2.1 fz.2.2.2.2.2
  refine ⟨.ref s.heap.objs.size,_,I3,rfl,⟨s.heap.objs.size,hf0,rfl,λxs' ha'=>?_⟩,⟨⟨_,by simpa using he2⟩,s1.1.at λo q=>sb2.extBut _ _ (Ne.symm hei) q⟩,λc hc'=>?_⟩
  ·rw [I.seqK_inj ha' ha]
   exact ⟨x,hx,rfl⟩
  ·have cl:c≠s.heap.objs.size:=by
    obtain ⟨o,q⟩:∃ o,s.heap.get? c=some o:=by
     simp only [Qn,Qs,or_false] at hc'
     rcases hc' with rfl | rfl
     ·exact ⟨_,he⟩
     ·obtain ⟨o,q,_⟩:=h1.obj; exact ⟨o,q⟩
    exact Qz (Qm q)
   rw [aH cl]
   exact (hf c hc').1
 done:=by
  intro X hP hw hK hc i pins s σ H E I hf st hg
  subst hP hw hK
  obtain ⟨⟨old,he⟩,h1⟩:=st
  obtain ⟨xs,ha,hlen⟩:=hg
  obtain ⟨its,rv,pa⟩:=I.seqK ha
  have la:=rv.length
  have na:∀ c∈[e,it],a≠c:=λc hc'=>I.seq_ne ha (hf c hc')
  have hT:s.TypeIs (.ref e) "enumerate" := ⟨_,he,rfl⟩
  have ei:i=its.toArray.size:=by rw [Ql]; omega
  subst ei
  unfold pyNext
  refine Ra (Rx (Rh (name:=Str.ofString "__next__") hT Rq (Rj Rq hT Tw
   (aEN (I.ok.hd hc) (sV k X.prog X.w it a its.toArray (na it (by simp))) he ⟨h1,pa⟩ λh' x kp hx=>?_) (Ts _))))
  obtain ⟨oe,hoe,hce⟩:=hx
  refine Ra (Tx (T := "StopIteration") (b:=true) ⟨oe,hoe,hce⟩ Ux (Rb ⟨rfl,?_⟩))
  refine I.turnedL (t':=s.toks) [e,it] (λc o hc' q=>?_) hf
  simp only [Qn,Qs,or_false,not_or] at hc'
  exact kp c o hc'.2 q
 self:=λ_ _ _ _ _ st h=>by
  obtain ⟨⟨old,he⟩,_⟩:=st
  exact Vm he h
theorem aB4 (k:Sk) (a:Addr) (xs:Array Value) :
  Meets (Builtin.«enumerate.__new__» ⟨[.type "enumerate",.ref a],[]⟩) (λ_ R s=>AtK k s.heap a xs /\
   R (.ok (.ret (.ref (s.heap.push (itK k a)).objs.size))) { s with heap:=(s.heap.push (itK k a)).push { cls:=.type "enumerate",data:=.fields #[.none,.bool false,.ref s.heap.objs.size,rawInt 0,.none,.none] } }) :=
 .of_wp λprog w A R s h=>by
  obtain ⟨hp,g,d,tk,os⟩:=s
  obtain ⟨hl,h⟩:=h
  have hsub:=sub_enumerate
  have hA:AtK k (Shared.heap ⟨hp,g,d,tk,os⟩) a xs:=hl
  obtain ⟨o,ho,hc⟩:∃ o,hp.get? a=some o/\(o.cls=.type "list" ∨ o.cls=.type "tuple"):=by
   cases k
   ·obtain ⟨o,e,c,_⟩:=hl; exact ⟨o,e,.inl c⟩
   ·obtain ⟨o,e,c,_⟩:=hl; exact ⟨o,e,.inr c⟩
  have hoL:(Shared.heap ⟨hp,g,d,tk,os⟩).get? a=some o:=ho
  wp_walk using AutoSeq1.wpAny_loadPart' hoL
  refine RaT λst=>Rb ?_
  split
  ·rename_i c _ _ _ _ _
   cases (c==Value.type "enumerate")
   ·wp_walk using AutoSeq1.wpAny_loadPart' hoL,xF hA
    exact ⟨_,rfl,h⟩
   ·wp_walk using AutoSeq1.wpAny_loadPart' hoL,xF hA
    exact ⟨_,rfl,h⟩
  ·wp_walk using AutoSeq1.wpAny_loadPart' hoL,xF hA
   exact ⟨_,rfl,h⟩
def aHi (K:Rc) (k:Sk) (ta:TA):TI:=λσ H R=>ta σ H λvs H1=>∃ a xs,vs = [.ref a]/\SqK k K H1 a xs/\R (Ite K k a) H1
theorem aEO (k:Sk) {a:Expr} {ta:TA} (hg:Gl X "enumerate") (hm:X.mg "enumerate" = none) (ha:PA X [a] ta) (hs:starEach [a] X.env = [(false,eval a X.env)]:=by rfl) :
  PI X (.Tuple es x1 tpos) (.Call (.Name "enumerate" p) [a] [] pos) (aHi X.K k ta):=by
 intro pins s σ H R I h
 refine Call_ (iU (u:=.type "enumerate") I hg hm (by decide +kernel) (PyProof.Rows.callWith_type1 (thn (ha pos pins s σ H _ I h) λus s1 hx9=>?_) hs rfl))
 obtain ⟨vs,H1,I1,r1,q1⟩:=hx9
 obtain ⟨l,xs,rfl,hA,q⟩:=q1
 obtain ⟨u1,rfl,r1'⟩:=fX r1
 cases r1'
 obtain ⟨its,rv,pa⟩:=I1.seqK hA
 refine Vr Iz (by decide) (Ib _) (Ii _) (λobj=>Ve obj _) Ij (aB4 k l its.toArray) ⟨pa,?_⟩
 have n1:(s1.heap.push (itK k l)).objs.size=s1.heap.objs.size+1:=Jk ..
 have g2:IsEnum ((s1.heap.push (itK k l)).push { cls:=.type "enumerate",data:=.fields #[.none,.bool false,.ref s1.heap.objs.size,rawInt 0,.none,.none] }) (s1.heap.push (itK k l)).objs.size s1.heap.objs.size 0 .none:=Qg _ rfl
 have g1:ItK k ((s1.heap.push (itK k l)).push { cls:=.type "enumerate",data:=.fields #[.none,.bool false,.ref s1.heap.objs.size,rawInt 0,.none,.none] }) s1.heap.objs.size l 0:=(ItK.new k s1.heap l).at λo e=>Qa _ e
 have kp:∀ c o,s1.heap.get? c=some o->((s1.heap.push (itK k l)).push { cls:=.type "enumerate",data:=.fields #[.none,.bool false,.ref s1.heap.objs.size,rawInt 0,.none,.none] }).get? c=some o:=λc o e=>Qa _ (Qa _ e)
 generalize (s1.heap.push (itK k l)).push { cls:=.type "enumerate",data:=.fields #[.none,.bool false,.ref s1.heap.objs.size,rawInt 0,.none,.none] }=h2 at g1 g2 kp ⊢
 refine ⟨⟨_,g2,rfl⟩,Vm g2 ?_⟩
 rw [n1] at *
 have I2:Inv X pins σ H1 { s1 with heap:=h2 }:=I1.kept (t':=s1.toks) kp
 refine ⟨s1.heap.objs.size+1,[s1.heap.objs.size+1,s1.heap.objs.size],_,_,H1,rfl,I2,aB3 k l (s1.heap.objs.size+1) s1.heap.objs.size (Nat.succ_ne_self _),⟨⟨_,g2⟩,g1⟩,λc hc=>?_,q⟩
 have hc':s1.heap.objs.size<=c:=by
  simp only [Qn,Qs,or_false] at hc
  rcases hc with r | r
  ·rw [r]; exact Xy _ _
  ·rw [r]; exact Qh _
 exact I1.fpOk hc' (I1.hok.fresh hc')
theorem aDe {k:Sk} {D:Ends} {σ:St} (Pv:Nat->St->Hp->Prop) (h0:Pv 0 σ H) (hl:∀ i σ H,i<=xs.length->Pv i σ H->SqK k K H a xs) (hs:∀ i x p σ H,xs[i]?=some x->Pv i σ H->H p=none->g (.ref p) σ (upd H p (.tup [.int (i:Nat),x])) λσ2 H2=>tb { D with nx:=Pv (i+1),ct:=Pv (i+1),bk:=D.nx } σ2 H2) (hd:∀ σ H,Pv xs.length σ H->D.nx σ H) :
  ∃ W:Nat->Nat->St->Hp->Prop,(∃ m,W 0 m σ H)/\∀ i m σ H,W i m σ H ->
   ((Ite K k a).stop i H/\D.nx σ H)∨((Ite K k a).go i H/\∃ N:St->Hp->Prop,(∀ σ' H',N σ' H'->∃ m',m' < m/\W (i+1) m' σ' H')/\∀ x H',(Ite K k a).yld i H x H'->g x σ H' λσ2 H2=>tb { D with nx:=N,ct:=N,bk:=D.nx } σ2 H2):=by
 refine ⟨λi m σ H=>m=xs.length - i/\i<=xs.length/\Pv i σ H,⟨xs.length,by simp,Jr _,h0⟩,?_⟩
 rintro i m σ H ⟨rfl,hi,p⟩
 have q:=hl i σ H hi p
 by_cases hlt:i < xs.length
 ·refine .inr ⟨⟨xs,xs[i],q,Qc hlt⟩,Pv (i+1),λσ' H' p'=>⟨xs.length - (i+1),by omega,rfl,hlt,p'⟩,λx H' y=>?_⟩
  obtain ⟨p1,hp1,rfl,y⟩:=y
  obtain ⟨v,hv,rfl⟩:=y xs q
  exact hs i v p1 σ H hv p hp1
 ·have e:i=xs.length:=by omega
  subst e
  exact .inl ⟨⟨xs,q,rfl⟩,hd σ H p⟩
theorem aDf {n:Nat} (h:n<=1000):n<=sizeLine:=by rw [Rf]; omega
section
variable {own:Nat} {fr:List Nat} {σ:St}
theorem aEP {i:Nat} (h:vs[i]?=some v):vs.take (i+1)=vs.take i++[v]:=by rw [Jd,h]; rfl
theorem qJ {n:Nat} (SH:St->Prop) (hn:n<=1000) (hl:vs.length=n) (hσ:SH (blk own fr σ)) (hstop:∀ H',aD H H'->J.stop n H') (hgo:∀ i H',i < n->aD H H'->J.go i H') (hs:∀ i v x σ H1 H2,i < n->vs[i]?=some v->SH σ->aD H H1->J.yld i H1 x H2->∀ Q:V->St->Hp->Prop,(∀ σ2 H4,SH σ2->aD H1 H4->Q v σ2 H4)->g x σ H2 λσ2 H3=>te σ2 H3 λy H4=>Q y σ2 H4) (hd:∀ H',aD H H'->Qf H' vs) :
  Wlk J [] (blk own fr σ) H (λys _ H=>Qf H ys) g sS (tbL te):=by
 refine nJ n (aDf hn) SH (λi ys H'=>ys=vs.take i/\aD H H') hσ ⟨rfl,aD.refl H⟩ (λi ys H' p=>by rw [p.1,Qv]; omega) (λys H' p=>hstop H' p.2) (λi ys H' hi p=>hgo i H' hi p.2) ?_ (λys H' p=>?_)
 ·rintro i ys σ' x H1 H2 hi sh ⟨rfl,s1⟩ hy hz
  have hv:vs[i]?=some vs[i]:=Qc (by omega)
  have h:=hs i vs[i] x σ' H1 H2 hi hv sh s1 hy (λy σ2 H4=>(vs.take i).length < sizeLine/\SH σ2/\(vs.take i++[y]=vs.take (i+1)/\aD H H4)) λσ2 H4 sh2 s4=>⟨hz,sh2,(aEP hv).symm,s1.trans s4⟩
  exact h
 ·obtain ⟨rfl,s1⟩:=p
  rw [Jq (by omega)]
  exact hd H' s1
theorem xJ (SH:St->Prop) (hn:xs.length<=1000) (hl:vs.length=xs.length) (ha:SqL K H a xs) (hσ:SH (blk own fr σ)) (hs:∀ (i:Nat) x v σ H1,xs[i]?=some x->vs[i]?=some v->SH σ->aD H H1->∀ Q:V->St->Hp->Prop,(∀ σ2 H4,SH σ2->aD H1 H4->Q v σ2 H4)->g x σ H1 λσ2 H2=>te σ2 H2 λy H4=>Q y σ2 H4) (hd:∀ H',aD H H'->Qf H' vs) :
  Wlk (Itl K a) [] (blk own fr σ) H (λys _ H=>Qf H ys) g sS (tbL te):=by
 refine qJ SH hn hl hσ (λH' s=>⟨xs,s.seqL ha,Qh _⟩) (λi H' hi s=>⟨xs,xs[i],s.seqL ha,Qc hi⟩) (λi v x σ H1 H2 hi hv sh s y Q k=>?_) hd
 obtain ⟨e,y⟩:=y
 subst e
 exact hs i x v σ _ (y xs (s.seqL ha)) hv sh s Q k
theorem xK (SH:St->Prop) (hn:xs.length<=1000) (hl:vs.length=xs.length) (ha:SqT K H a xs) (hσ:SH (blk own fr σ)) (hs:∀ (i:Nat) x v σ H1,xs[i]?=some x->vs[i]?=some v->SH σ->aD H H1->∀ Q:V->St->Hp->Prop,(∀ σ2 H4,SH σ2->aD H1 H4->Q v σ2 H4)->g x σ H1 λσ2 H2=>te σ2 H2 λy H4=>Q y σ2 H4) (hd:∀ H',aD H H'->Qf H' vs) :
  Wlk (Itt K a) [] (blk own fr σ) H (λys _ H=>Qf H ys) g sS (tbL te):=by
 refine qJ SH hn hl hσ (λH' s=>⟨xs,s.seqT ha,Qh _⟩) (λi H' hi s=>⟨xs,xs[i],s.seqT ha,Qc hi⟩) (λi v x σ H1 H2 hi hv sh s y Q k=>?_) hd
 obtain ⟨e,y⟩:=y
 subst e
 exact hs i x v σ _ (y xs (s.seqT ha)) hv sh s Q k
theorem aDg (SH:St->Prop) (hn:xs.length<=1000) (hle:xs.length<=zs.length) (hl:vs.length=xs.length) (ha:∀ H',aD H H'->SqK k1 K H' a xs/\SqK k2 K H' b zs) (hσ:SH (blk own fr σ)) (hs:∀ (i:Nat) x z v p σ H1,xs[i]?=some x->zs[i]?=some z->vs[i]?=some v->H1 p=none->SH σ->aD H H1->∀ Q:V->St->Hp->Prop,(∀ σ2 H4,SH σ2->aD H1 H4->Q v σ2 H4)->g (.ref p) σ (upd H1 p (.tup [x,z])) λσ2 H2=>te σ2 H2 λy H4=>Q y σ2 H4) (hd:∀ H',aD H H'->Qf H' vs) :
  Wlk (Itz K k1 k2 a b) [] (blk own fr σ) H (λys _ H=>Qf H ys) g sS (tbL te):=by
 refine qJ SH hn hl hσ (λH' s=>⟨xs,zs,(ha H' s).1,(ha H' s).2,by omega⟩) (λi H' hi s=>⟨xs,zs,xs[i],zs[i]'(by omega),(ha H' s).1,(ha H' s).2,Qc hi,Qc (by omega)⟩) (λi v x σ H1 H2 hi hv sh s y Q k=>?_) hd
 obtain ⟨q,hq,rfl,hy⟩:=y
 obtain ⟨x,z,h1,h2,rfl⟩:=hy xs zs (ha H1 s).1 (ha H1 s).2
 exact hs i x z v q σ H1 h1 h2 hv hq sh s Q k
end
section
variable {kX:List Stmt} {t u:TS}
end
theorem aDh (hK:X.K=K):IxR X (aGf K):=by subst hK; exact cG
theorem xL {l:Expr} (hK:X.K=K) (hl:PE X l tl):PI X tg l (aFC K tl):=by subst hK; exact eZ hl
theorem sY (xs:Array Value):slicePick xs none none (some (-1))=xs.toList.reverse.toArray:=by
 unfold slicePick
 have e1:sliceBounds none none (some (-1)) xs.size=((xs.size:Int) - 1,-1,-1):=by simp [sliceBounds]
 rw [e1,<- aC8 xs]
 congr 1
 show List.filterMap (λx=>xs[x]?) (sliceRange ((xs.size:Int) - 1) (-1) (-1))=_
 have e2:sliceRange ((xs.size:Int) - 1) (-1) (-1)=(List.range xs.size).map λ(k:Nat)=>((xs.size:Int) - 1+(k:Int)*(-1)).toNat:=by
  unfold sliceRange
  rw [if_neg (by decide)]
  have e3:(if (xs.size:Int) - 1 > -1 then ((xs.size:Int) - 1 - -1 - -1 - 1) / (- -1) else 0).toNat=xs.size:=by
   by_cases h0:xs.size=0
   ·rw [h0]; decide
   ·rw [if_pos (by omega),show (- -1:Int)=1 from rfl,Int.ediv_one]; omega
  show (List.range (if (xs.size:Int) - 1 > -1 then ((xs.size:Int) - 1 - -1 - -1 - 1) / (- -1) else 0).toNat).map _=_
  rw [e3]
  refine Xk λk _=>?_
  congr 1
  omega
 rw [e2,Zv]
 rfl
def aHj (K:Rc) (te ts:TE):TE:=λσ H Q=>te σ H λx H1=>ts σ H1 λy H2=>y=.int (-1)/\∃ a xs,x=.ref a/\SqL K H2 a xs/\∀ p,H2 p=none->Q (.ref p) (upd H2 p (.lst xs.reverse))
theorem aEQ {st:Expr} (he:PE X e te) (hst:PE X st ts):PE X (.Subscript e (.Slice none none (some st) p2) pos) (aHj X.K te ts):=by
 intro pins s σ H Q I h
 refine Io (thn (he pins s σ H _ I h) λv s1 hx9=>?_)
 obtain ⟨x,H1,I1,r1,q1⟩:=hx9
 refine wpAny_Slice ?_
 rw [Ig]
 refine Rb ?_
 show wpAny _ _ (evalPart none X.env) _ _ s1
 rw [Ig]
 refine Rb ?_
 show wpAny _ _ (evalPart (some st) X.env) _ _ s1
 rw [evalPart_some]
 refine thn (hst pins s1 σ H1 _ I1 q1) λvst s3 hx9=>?_
 obtain ⟨y,H3,I3,r3,q3⟩:=hx9
 obtain ⟨rfl,a,xs,rfl,hx,q⟩:=q3
 obtain ⟨tk,rfl⟩:=r3
 cases r1
 have I4:Inv X pins σ H3 { s3 with heap:=s3.heap.push { cls:=.type "slice",data:=.fields #[.none,.none,.int (-1) tk] } }:=I3.kept (t':=s3.toks) λb ob q=>Qa _ q
 obtain ⟨its,r,ht,hz⟩:=I4.list hx
 have hlen:=r.length
 have hg:wpAny (model X.prog X.w) X.A (getItem (.ref a) (.ref s3.heap.objs.size)) (EP X pins σ Q) X.xe { s3 with heap:=s3.heap.push { cls:=.type "slice",data:=.fields #[.none,.none,.int (-1) tk] } }:=by
  refine Rac ht.isList (Heap.IsSliceOf.new ..) .none .none (.int (-1) tk) (by decide) ?_ (by rw [Ql]; omega)
  rw [sY]
  refine ⟨.ref _,_,I4.laid (t':=s3.toks) (o:=.lst xs.reverse) (λb ob q=>Qa _ q) (Qh _) ?_,rfl,q _ (I4.hok.fresh (Qh _))⟩
  exact ⟨by rw [Yy]; exact hz,its.reverse,0,r.reverse,Qg _ rfl⟩
 show wpAny (model X.prog X.w) X.A (subscriptTail e (.Slice none none (some st) p2) (.ref a) (.ref s3.heap.objs.size)) (EP X pins σ Q) X.xe { s3 with heap:=s3.heap.push { cls:=.type "slice",data:=.fields #[.none,.none,.int (-1) tk] } }
 exact tail_any (ops:=[.ref a,.ref s3.heap.objs.size]) ht.isList.typeIs slot_list_getitem.lookup hg (by with_unfolding_all rfl)
section
variable {E E':Hp->V->Prop} {σ:St} {tb:TE} {t:TA} {tl th:TO}
instance {a:Addr} {xs:List V}:Mo (λH v=>v=.ref a/\SqT K (Vw S H) a xs):=⟨λe h=>⟨h.1,(Vw.same e).seqT h.2⟩⟩
end
section
variable {tg2 iter2:Expr} {it acc:Value} {env:Env}
end
section
variable {fr:List Nat} {tg2 iter2:Expr} {wi wi2:TI} {g2:TG}
end
section
variable {own:Nat} {fr:List Nat} {g2:TG} {wi2:TI} {σ:St}
end
section
variable [DecidableEq κ]
def dJ (kvs:List (κ×V)) (k:κ):Option V:=(kvs.find? λkv=>decide (kv.1=k)).map (·.2)
def jL (kvs:List (κ×V)) (k:κ) (v:V):List (κ×V) :=
 if (kvs.any λkv=>decide (kv.1=k))=true then kvs.map (λkv=>if kv.1=k then (kv.1,v) else kv) else kvs++[(k,v)]
def aFK (kvs:List (κ×V)) (k:κ):List (κ×V):=kvs.filter λkv=>decide (kv.1≠k)
theorem aDi {k:κ}:dJ ([]:List (κ×V)) k=none:=rfl
theorem eI {p:κ×V} {r:List (κ×V)} {k:κ} (e:p.1=k):dJ (p::r) k=some p.2:=by simp [dJ,Xs,e]
theorem eQ {p:κ×V} {r:List (κ×V)} {k:κ} (e:¬ p.1=k):dJ (p::r) k=dJ r k:=by simp [dJ,Xs,e]
theorem hG (k:κ):∀ kvs:List (κ×V),(kvs.any λkv=>decide (kv.1=k))=(dJ kvs k).isSome
 | []=>rfl
 | p::r=>by
  rw [Zq]
  by_cases e:p.1=k
  ·simp only [eI e,decide_eq_true e,Qat,Qaj]
  ·rw [eQ e,decide_eq_false e,Bool.false_or]; exact hG k r
theorem xM (k j:κ) (y:V):∀ kvs:List (κ×V),dJ (kvs.map λkv=>if kv.1=k then (kv.1,y) else kv) j=(dJ kvs j).map λx=>if j=k then y else x
 | []=>rfl
 | p::r=>by
  have ih:=xM k j y r
  rw [Qy]
  by_cases h:p.1=k
  ·rw [if_pos h]
   by_cases e:p.1=j
   ·rw [eI (p:=(p.1,y)) e,eI e,Xw,if_pos (e.symm.trans h)]
   ·rw [eQ (p:=(p.1,y)) e,eQ e,ih]
  ·rw [if_neg h]
   by_cases e:p.1=j
   ·rw [eI (p:=p) e,eI e,Xw,if_neg (λz=>h (e.trans z))]
   ·rw [eQ (p:=p) e,eQ e,ih]
theorem oZ (k j:κ) (y:V):∀ kvs:List (κ×V),dJ kvs k=none->dJ (kvs++[(k,y)]) j=if j=k then some y else dJ kvs j
 | [],_=>by
  by_cases e:k=j
  ·rw [if_pos e.symm]; exact eI (p:=(k,y)) e
  ·rw [if_neg (λz=>e z.symm)]; exact eQ (p:=(k,y)) e
 | p::r,hn=>by
  rw [Wn]
  have hk:¬ p.1=k:=λz=>by rw [eI z] at hn; cases hn
  rw [eQ hk] at hn
  have ih:=oZ k j y r hn
  by_cases e:p.1=j
  ·rw [eI e,eI e,if_neg (λz=>hk (e.trans z))]
  ·rw [eQ e,eQ e,ih]
theorem xN (kvs:List (κ×V)) (k j:κ) (y:V):dJ (jL kvs k y) j=if j=k then some y else dJ kvs j:=by
 unfold jL
 by_cases a:(kvs.any λkv=>decide (kv.1=k))=true
 ·rw [if_pos a,xM]
  rw [hG] at a
  by_cases e:j=k
  ·obtain ⟨x,hx⟩:=We.mp a
   rw [if_pos e,e,hx,Xw,if_pos rfl]
  ·rw [if_neg e]
   cases dJ kvs j with
   | none=>rfl
   | some x=>rw [Xw,if_neg e]
 ·rw [if_neg a]
  refine oZ k j y kvs ?_
  rw [hG] at a
  cases q:dJ kvs k with
  | none=>rfl
  | some x=>rw [q] at a; exact (a rfl).elim
theorem lI (kvs:List (κ×V)) (k:κ) (v:V):(jL kvs k v).length<=kvs.length+1:=by
 unfold jL
 split
 ·rw [Qb]; omega
 ·rw [Qq,Ja,Yh]; omega
theorem aDj {kvs:List (κ×V)} {k:κ} (v:V) (h:dJ kvs k=none):jL kvs k v=kvs++[(k,v)]:=by
 unfold jL
 rw [hG,h]
 exact if_neg (by decide)
theorem mG.isSome_eq {o:Option V} {u:Option Value} (r:mG o u):o.isSome=u.isSome:=by
 cases o with
 | none => cases u with
   | none=>rfl
   | some _=>exact (show False from r).elim
 | some _ => cases u with
   | none=>exact (show False from r).elim
   | some _=>rfl
theorem mG.getD {o:Option V} {u:Option Value} {d:V} {d':Value} (r:mG o u) (rd:bQ d d'):bQ (o.getD d) (u.getD d'):=by
 cases o with
 | none => cases u with
   | none=>exact rd
   | some _=>exact (show False from r).elim
 | some _ => cases u with
   | none=>exact (show False from r).elim
   | some _=>exact r
theorem KV.val {kvs:List (κ×V)} {vs:List (κ×Value)} (r:KV kvs vs) (k:κ):mG (dJ kvs k) (valueAt vs k):=by
 unfold KV at r
 induction r with
 | nil=>exact True.intro
 | @cons p q ps qs h t ih =>
  obtain ⟨h1,h2⟩:=h
  by_cases e:p.1=k
  ·have e':q.1=k:=h1.symm.trans e
   have b:valueAt (q::qs) k=some q.2:=by simp [valueAt,Xs,e']
   rw [eI e,b]; exact h2
  ·have e':¬ q.1=k:=λz=>e (h1.trans z)
   have b:valueAt (q::qs) k=valueAt qs k:=by simp [valueAt,Xs,e']
   rw [eQ e,b]; exact ih
theorem KV.any {kvs:List (κ×V)} {vs:List (κ×Value)} (r:KV kvs vs) (k:κ):(kvs.any λkv=>decide (kv.1=k))=vs.any λkv=>decide (kv.1=k):=by
 unfold KV at r
 induction r with
 | nil=>rfl
 | cons h t ih=>rw [Zq,Zq,ih,h.1]
theorem KV.repl {kvs:List (κ×V)} {vs:List (κ×Value)} (r:KV kvs vs) (k:κ) (ry:bQ y u) :
  KV (kvs.map λkv=>if kv.1=k then (kv.1,y) else kv) (vs.map λkv=>if kv.1=k then (kv.1,u) else kv):=by
 unfold KV at r ⊢
 induction r with
 | nil=>exact .nil
 | @cons p q ps qs h t ih =>
  rw [Qy,Qy]
  refine .cons ?_ ih
  obtain ⟨h1,h2⟩:=h
  by_cases e:p.1=k
  ·rw [if_pos e,if_pos (h1.symm.trans e)]; exact ⟨h1,ry⟩
  ·rw [if_neg e,if_neg (λz=>e (h1.trans z))]; exact ⟨h1,h2⟩
theorem KV.put {kvs:List (κ×V)} {vs:List (κ×Value)} (r:KV kvs vs) (k:κ) (ry:bQ y u):KV (jL kvs k y) (stored vs k u):=by
 unfold jL stored
 rw [r.any k]
 by_cases e:(vs.any λkv=>decide (kv.1=k))=true
 ·rw [if_pos e,if_pos e]; exact r.repl k ry
 ·rw [if_neg e,if_neg e]; exact Paired.snoc r ⟨rfl,ry⟩
theorem KV.drop {kvs:List (κ×V)} {vs:List (κ×Value)} (r:KV kvs vs) (k:κ):KV (aFK kvs k) (without vs k):=by
 unfold KV at r ⊢
 unfold aFK without
 induction r with
 | nil=>exact .nil
 | @cons p q ps qs h t ih =>
  obtain ⟨h1,h2⟩:=h
  rw [Xg,Xg]
  by_cases e:p.1=k
  ·have a:¬ decide (p.1≠k)=true:=by simp [e]
   have b:¬ decide (q.1≠k)=true:=by simp [h1.symm.trans e]
   rw [if_neg a,if_neg b]; exact ih
  ·have e':¬ q.1=k:=λz=>e (h1.trans z)
   have a:decide (p.1≠k)=true:=by simp [e]
   have b:decide (q.1≠k)=true:=by simp [e']
   rw [if_pos a,if_pos b]; exact .cons ⟨h1,h2⟩ ih
theorem KV.keys {kvs:List (κ×V)} {vs:List (κ×Value)} (r:KV kvs vs):kvs.map (·.1)=vs.map (·.1):=by
 unfold KV at r
 induction r with
 | nil=>rfl
 | cons h t ih=>rw [Qy,Qy,ih,h.1]
theorem KV.length {kvs:List (κ×V)} {vs:List (κ×Value)} (r:KV kvs vs):kvs.length=vs.length:=Paired.length r
end
theorem xO {k:Key} (r:bQ (kV k) u):(cA P w).is k u=true:=by
 cases k with
 | inl i=>obtain ⟨t,e⟩:=(show ∃ t,u=Value.int i t from r); subst e; exact wN P w i t
 | inr x=>obtain ⟨t,e⟩:=(show ∃ t,u=Value.str x t from r); subst e; exact wO P w x t
theorem tW:∀ {ks:List Key} {us:List Value},bK (ks.map kV) us->ItemsAre (cA P w) ks us
 | [],_,r=>by rw [Yp] at r; cases r; exact .nil
 | k::ks,_,r=>by
  rw [Qy] at r
  cases r with
  | cons h t=>exact .cons (xO h) (tW t)
abbrev KT (H:Hp):List (List Key×V)->List (List Key×Addr×Value)->Prop:=Paired λp q=>p.1=q.1/\H q.2.1=some (.tup (p.1.map kV))/\bQ p.2 q.2.2
theorem KT.val {xs:List (List Key×Addr×Value)} (r:KT H kvs xs) (k:List Key):mG (dJ kvs k) ((atKey xs k).map (·.2)):=by
 induction r with
 | nil=>exact True.intro
 | @cons p q ps qs h t ih =>
  obtain ⟨h1,_,h2⟩:=h
  by_cases e:p.1=k
  ·have e':q.1=k:=h1.symm.trans e
   have b:atKey (q::qs) k=some q.2:=by simp [atKey,Xs,e']
   rw [eI e,b]; exact h2
  ·have e':¬ q.1=k:=λz=>e (h1.trans z)
   have b:atKey (q::qs) k=atKey qs k:=by simp [atKey,Xs,e']
   rw [eQ e,b]; exact ih
theorem KT.repl {xs:List (List Key×Addr×Value)} (r:KT H kvs xs) (k:List Key) (ry:bQ y u) :
  KT H (kvs.map λkv=>if kv.1=k then (kv.1,y) else kv) (xs.map (putAt k u)):=by
 induction r with
 | nil=>exact .nil
 | @cons p q ps qs h t ih =>
  rw [Qy,Qy]
  refine .cons ?_ ih
  obtain ⟨h1,h2,h3⟩:=h
  unfold putAt
  by_cases e:p.1=k
  ·rw [if_pos e,if_pos (h1.symm.trans e)]; exact ⟨h1,h2,ry⟩
  ·rw [if_neg e,if_neg (λz=>e (h1.trans z))]; exact ⟨h1,h2,h3⟩
theorem KT.put {xs:List (List Key×Addr×Value)} (r:KT H kvs xs) (k:List Key) (hb:H b=some (.tup (k.map kV))) (ry:bQ y u) :
  KT H (jL kvs k y) (storedH xs k b u):=by
 have e:(kvs.any λkv=>decide (kv.1=k))=(atKey xs k).isSome:=by
  rw [hG,(r.val k).isSome_eq,Qap]
 unfold jL storedH
 rw [e]
 by_cases q:(atKey xs k).isSome=true
 ·rw [if_pos q,if_pos q]; exact r.repl k ry
 ·rw [if_neg q,if_neg q]; exact Paired.snoc r ⟨rfl,hb,ry⟩
theorem KT.keeps {xs:List (List Key×Addr×Value)} (r:KT H kvs xs) (ht:∀ b ys,H b=some (.tup ys)->H' b=some (.tup ys)):KT H' kvs xs :=
 Paired.mapP r λ_ _ z=>⟨z.1,ht _ _ z.2.1,z.2.2⟩
theorem aFL {u:HO} (ok:HOk P w H h) (e:Rd H a u):bN P w H h a u:=e.ok ok
theorem aA0 {kvs:List (Key×V)} (ok:HOk P w H h) (e:Rd H a (.dK kvs)):kvs.length<=sizeLine/\(a==sysModules)=false/\∃ vs,KV kvs vs/\h.DictOf (cA P w) a vs :=
 show bN P w H h a (.dK kvs) from aFL ok e
theorem aHk {kvs:List (Key×V)} (ok:HOk P w H h) (e:H a=some (.dK kvs)):kvs.length<=sizeLine/\(a==sysModules)=false/\∃ vs,KV kvs vs/\h.DictOf (cA P w) a vs:=aA0 ok (.inl e)
theorem lJ {ks:List Key} (ok:HOk P w H h) (e:H a=some (.tup (ks.map kV))):(tupleKind (cA P w)).is h ks a:=by
 obtain ⟨_,its,n,r,e1⟩:=(show bN P w H h a (.tup (ks.map kV)) from ok a _ e)
 exact ⟨_,its.toArray,n,e1,rfl,rfl,by simpa using tW r⟩
theorem xP (ok:HOk P w H h) (e:Rd H a (.dT kvs)):kvs.length<=sizeLine/\(a==sysModules)=false /\
  ∃ xs,KT H kvs xs/\h.DictOfH (tupleKind (cA P w)) a xs:=by
 obtain ⟨z,y,xs,r,o,es,ep,h1,h2,h3,h4,h5⟩:=(show bN P w H h a (.dT kvs) from aFL ok e)
 refine ⟨z,y,xs,r,o,es,ep,h1,h2,h3,h4,λx hx=>?_,h5⟩
 have all:∀ {l:List (List Key×V)} {m:List (List Key×Addr×Value)},KT H l m->∀ x∈m,(tupleKind (cA P w)).is h x.1 x.2.1:=by
  intro l m q
  induction q with
  | nil=>intro x hx; exact nomatch hx
  | @cons p q ps qs hq t ih =>
   intro x hx
   rcases Qn.mp hx with e | hx
   ·subst e
    exact lJ ok (by rw [<- hq.1]; exact hq.2.1)
   ·exact ih x hx
 exact all r x hx
theorem aFM (ok:HOk P w H h) (e:H a=some (.dT kvs)):kvs.length<=sizeLine/\(a==sysModules)=false /\
  ∃ xs,KT H kvs xs/\h.DictOfH (tupleKind (cA P w)) a xs:=xP ok (.inl e)
def sZ (H:Hp) (a:Addr) (y:V) (r:Option V):Prop :=
 (∃ kvs k,Rd H a (.dK kvs)/\y=kV k/\r=dJ kvs k)∨∃ kvs k b,Rd H a (.dT kvs)/\y=.ref b/\H b=some (.tup (k.map kV))/\r=dJ kvs k
def vD (H:Hp) (a:Addr) (y v:V) (H':Hp):Prop :=
 (∃ kvs k,H a=some (.dK kvs)/\y=kV k/\kvs.length < sizeLine/\H'=upd H a (.dK (jL kvs k v))) ∨
 ∃ kvs k b,H a=some (.dT kvs)/\y=.ref b/\H b=some (.tup (k.map kV))/\kvs.length < sizeLine/\H'=upd H a (.dT (jL kvs k v))
theorem sZ.k {kvs:List (Key×V)} {k:Key} (e:H a=some (.dK kvs)):sZ H a (kV k) (dJ kvs k):=.inl ⟨kvs,k,.inl e,rfl,rfl⟩
theorem sZ.t {k:List Key} (e:H a=some (.dT kvs)) (eb:H b=some (.tup (k.map kV))):sZ H a (.ref b) (dJ kvs k):=.inr ⟨kvs,k,b,.inl e,rfl,eb,rfl⟩
theorem vD.k {kvs:List (Key×V)} {k:Key} (e:H a=some (.dK kvs)) (hl:kvs.length < sizeLine):vD H a (kV k) v (upd H a (.dK (jL kvs k v))):=.inl ⟨kvs,k,e,rfl,hl,rfl⟩
theorem vD.t {k:List Key} (e:H a=some (.dT kvs)) (eb:H b=some (.tup (k.map kV))) (hl:kvs.length < sizeLine) :
  vD H a (.ref b) v (upd H a (.dT (jL kvs k v))):=.inr ⟨kvs,k,b,e,rfl,eb,hl,rfl⟩
section
variable {σ:St} {r:Value} {o:Option V}
theorem Inv.big (I:Inv X pins σ H s):sysModules < s.heap.objs.size:=by
 have h:mainGlobals < s.heap.objs.size:=(I.mod.glob.keeps I.bk).lt
 exact Yq (by decide) h
theorem aB5 (hu:A.units+1 < cLine) (I:Inv X pins σ H s) (g:sZ H a y (some v)) (ry:bQ y u) (h:∀ w' s',Inv X pins σ H s'->bQ v w'->Q w' s') :
  wpAny (model X.prog X.w) A (getItem (.ref a) u) Q E s:=by
 rcases g with ⟨kvs,k,e,ey,l⟩ | ⟨kvs,k,b,e,ey,eb,l⟩
 ·subst ey
  obtain ⟨z,hd,vs,rel,dd⟩:=aA0 I.hok e
  obtain ⟨w',hw,rw'⟩:=mG.some_of (v:=v) (o:=valueAt vs k) (by rw [l]; exact rel.val k)
  exact wpAny_getItem_of (xO ry) dd.mapOf hw (h w' _ (I.tok _) rw')
 ·subst ey
  cases (show u=Value.ref b from ry)
  obtain ⟨z,hd,xs,rel,dd⟩:=xP I.hok e
  obtain ⟨w',hw,rw'⟩:=mG.some_of (v:=v) (o:=(atKey xs k).map (·.2)) (by rw [l]; exact rel.val k)
  obtain ⟨p,hp,hp2⟩:=Option.map_eq_some_iff.mp hw
  refine wpAny_getItem_heap (Vj hu) (lJ I.hok eb) dd hp ?_
  rw [hp2]
  exact h w' _ (I.tok _) rw'
theorem aER (hu:A.units+1 < cLine) (I:Inv X pins σ H s) (g:sZ H a y o) (ry:bQ y u) (h:∀ s',Inv X pins σ H s'->Q (.bool (!o.isSome)) s') :
  wpAny (model X.prog X.w) A (compareOp .NotIn u (.ref a)) Q E s:=by
 rcases g with ⟨kvs,k,e,ey,l⟩ | ⟨kvs,k,b,e,ey,eb,l⟩
 ·subst ey
  obtain ⟨z,hd,vs,rel,dd⟩:=aA0 I.hok e
  refine wpAny_notIn_of (xO ry) hd dd.mapOf ?_
  rw [<- (rel.val k).isSome_eq,<- l]
  exact h _ (I.tok _)
 ·subst ey
  cases (show u=Value.ref b from ry)
  obtain ⟨z,hd,xs,rel,dd⟩:=xP I.hok e
  refine wpAny_notIn_heap (Vj hu) (lJ I.hok eb) hd dd ?_
  have q:=(rel.val k).isSome_eq
  rw [Qap] at q
  rw [<- q,<- l]
  exact h _ (I.tok _)
theorem qK {ob:HO} (I:Inv X pins σ H s) (mu:Mut (H a)) (hs:Heap.SameBut a s.heap h') (he:∃ q,h'.get? a=some q) (new:bN X.prog X.w (upd H a ob) h' a ob) :
  Inv X pins σ (upd H a ob) { s with heap:=h',toks:=t' } :=
 I.write (x:=a) (e:=a) mu (.inl rfl) (λb q hb z=>(hs.2 b hb).trans z) he new
theorem aDk {kvs:List (Key×V)} {vs:List (Key×Value)} (z:kvs.length<=sizeLine) (hd:(a==sysModules)=false) (rel:KV kvs vs) (dd:h'.DictOf (cA P w) a vs) :
  bN P w H' h' a (.dK kvs):=⟨z,hd,vs,rel,dd⟩
theorem aB6 {Q:Unit->Shared->Prop} (hu:A.units+1 < cLine) (I:Inv X pins σ H s) (g:vD H a y v H') (ry:bQ y u) (rv:bQ v r) (h:∀ s',Inv X pins σ H' s'->Q () s') :
  wpAny (model X.prog X.w) A (setItem (.ref a) u r) Q E s:=by
 rcases g with ⟨kvs,k,e,ey,l,eH⟩ | ⟨kvs,k,b,e,ey,eb,l,eH⟩
 ·subst ey eH
  obtain ⟨z,hd,vs,rel,dd⟩:=aHk I.hok e
  have hz:vs.length<=sizeLine:=by rw [<- rel.length]; exact z
  have hl:(jL kvs k v).length<=sizeLine:=by have:=lI kvs k v; omega
  refine wpAny_setItem_pairs (hsz:=hz) (xO ry) dd λh' dd' hs=>h _ ?_
  have he:∃ q,h'.get? a=some q:=let ⟨q,_,_,hq,_⟩:=dd'; ⟨q,hq⟩
  exact qK I (by rw [e]; exact True.intro) hs he (aDk hl hd (rel.put k rv) dd')
 ·subst ey eH
  cases (show u=Value.ref b from ry)
  obtain ⟨z,hd,xs,rel,dd⟩:=aFM I.hok e
  have hz:xs.length<=sizeLine:=by rw [<- Paired.length rel]; exact z
  have hl:(jL kvs k v).length<=sizeLine:=by have:=lI kvs k v; omega
  refine wpAny_setItem_heap (hsz:=hz) (Vj hu) (lJ I.hok eb) dd λh' dd' hs=>h _ ?_
  obtain ⟨q,es,ep,hq,h2,h3,h4,_,h5⟩:=dd'
  refine qK I (by rw [e]; exact True.intro) hs ⟨q,hq⟩ ⟨hl,hd,_,(rel.put k eb rv).keeps λc ys ec=>?_,q,es,ep,hq,h2,h3,h4,h5⟩
  rw [aH (aFB ec e (λz=>nomatch z))]
  exact ec
end
section
variable {σ:St} {kvs:List (Key×V)} {k:Key}
end
def aHl (i:Expr):Prop:=∀ ov iv,subscripted i false ov iv=operate [ov,iv] (getItem ov iv)
theorem aES {env:Env} {slice:Expr} {id:String} (hl:typeLookup (.type T) "__getitem__" = pure (some (.builtin id))) (hs:aHl slice) (h:wpAny (model prog w) A (eval value env) (λo s1x=>wpAny (model prog w) A (eval slice env) (λi s2x=>s2x.TypeIs o T/\wpAny (model prog w) A (getItem o i) Q E s2x) E s1x) E s) :
  wpAny (model prog w) A (eval (.Subscript value slice pos) env) Q E s:=by
 refine Io (Rn h (λo s1x h1x=>Rn h1x (λi s2x h2x=>?_) λ_ _ x=>x) λ_ _ x=>x)
 obtain ⟨hT,h2x⟩:=h2x
 unfold subscriptTail
 refine Ra ?_
 rw [getitemInPython_of_ne hT.not_modules]
 refine Ra (RaU hT hl ?_)
 have fin:wpAny (model prog w) A (subscripted slice false o i) (λr s3x=>wpAny (model prog w) A (letTemporaryGo value o r >>= λ_=>pure r) Q E s3x) E s2x:=by
  rw [hs o i]
  exact wpAny_operating (Rn h2x (λr s3x h3x=>Ra (wpAny_letTemporaryGo (Rb h3x))) λ_ _ x=>x)
 first
  | exact Rb (Ra fin)
  | exact Ra (Rb (Ra fin))
  | exact Ra fin
theorem xQ {σ:St} {o:Option V} (I:Inv X pins σ H s) (g:sZ H a y o):s.TypeIs (.ref a) "dict" := by
 rcases g with ⟨kvs,k,e,_,_⟩ | ⟨kvs,k,b,e,_,_,_⟩
 ·obtain ⟨_,_,vs,_,dd⟩:=aA0 I.hok e
  exact dd.typeIs
 ·obtain ⟨_,_,xs,_,dd⟩:=xP I.hok e
  exact dd.typeIs
def aHm (td ty:TE):TE:=λσ H Q=>td σ H λx H1=>ty σ H1 λy H2=>∃ a v,x=.ref a/\sZ H2 a y (some v)/\Q v H2
def aET (ty td:TE):TE:=λσ H Q=>ty σ H λy H1=>td σ H1 λx H2=>∃ a o,x=.ref a/\sZ H2 a y o/\Q (.bl (!o.isSome)) H2
def aHn (td ty tv:TE):TS:=λD σ H=>tv σ H λv H1=>td σ H1 λx H2=>ty σ H2 λy H3=>∃ a H4,x=.ref a/\vD H3 a y v H4/\D.nx σ H4
section
variable {o i:Expr} {ty:TE}
theorem nK (hu:X.A.units+1 < cLine) (ho:PE X o td) (hi:PE X i ty) (hs:aHl i):PE X (.Subscript o i pos) (aHm td ty):=by
 intro pins s σ H Q I h
 refine aES PySem.F.slot_dict_getitem.lookup hs (thn (ho pins s σ H _ I h) λu s1 ⟨x,H1,I1,rx,q1⟩=>thn (hi pins s1 σ H1 _ I1 q1) λiv s2 hx9=>?_)
 obtain ⟨y,H2,I2,ry,a,v,ex,g,q2⟩:=hx9
 subst ex
 obtain rfl:u=Value.ref a:=rx
 exact ⟨xQ I2 g,aB5 hu I2 g ry λw' s3 I3 rw'=>⟨v,H2,I3,rw',q2⟩⟩
theorem aB7 (hu:X.A.units+1 < cLine) (hi:PE X i ty) (ho:PE X o td):PC X .NotIn i o (aET ty td):=by
 intro pins s σ H Q I h
 refine thn (hi pins s σ H _ I h) λiv s1 ⟨y,H1,I1,ry,q1⟩=>thn (ho pins s1 σ H1 _ I1 q1) λu s2 hx9=>?_
 obtain ⟨x,H2,I2,rx,a,ov,ex,g,q2⟩:=hx9
 subst ex
 obtain rfl:u=Value.ref a:=rx
 exact aER hu I2 g ry λs3 I3=>⟨.bl (!ov.isSome),H2,I3,rfl,q2⟩
theorem vE (hu:X.A.units+1 < cLine) (ho:PE X o td) (hi:PE X i ty) (hv:PE X value tv) (hs:swapsWith value (some (.Subscript o i pos')) pos.line X.env=pure false) :
  PS X (.Assign [.Subscript o i pos'] value pos) (aHn td ty tv):=by
 intro pins s σ H D I h
 refine wpAny_Assign_Subscript (thn (hv pins s σ H _ I h) λr s1 ⟨v,H1,I1,rv,q1⟩=>thn (ho pins s1 σ H1 _ I1 q1) λu s2 ⟨x,H2,I2,rx,q2⟩=>thn (hi pins s2 σ H2 _ I2 q2) λiv s3 hx9=>?_) hs
 obtain ⟨y,H3,I3,ry,a,H4,ex,g,q3⟩:=hx9
 subst ex
 obtain rfl:u=Value.ref a:=rx
 exact aB6 hu I3 g ry rv λs4 I4=>⟨σ,H4,I4,q3⟩
end
theorem xR (h:Heap) (hb:sysModules < h.objs.size):bN P w H (h.push { cls:=.type "dict",data:=.dict #[] }) h.objs.size (.dK []) :=
 ⟨Jr _,beq_eq_false_iff_ne.mpr (Ne.symm (Qz hb)),[],.nil,Heap.DictOf.new h⟩
theorem xS (h:Heap) (hb:sysModules < h.objs.size):bN P w H (h.push { cls:=.type "dict",data:=.dict #[] }) h.objs.size (.dT []) :=
 ⟨Jr _,beq_eq_false_iff_ne.mpr (Ne.symm (Qz hb)),[],.nil,_,#[],0,Qg _ rfl,⟨rfl,rfl,rfl⟩,rfl,rfl,Ya⟩
def aGp:TE:=λ_ H Q=>∀ p,H p=none->Q (.ref p) (upd H p (.dK []))
def aGq:TE:=λ_ H Q=>∀ p,H p=none->Q (.ref p) (upd H p (.dT []))
theorem aDl:PE X (.Dict [] [] pos) aGp:=λpins s σ H Q I h =>
 RaI ⟨.ref s.heap.objs.size,_,I.laid (a:=s.heap.objs.size) (o:=.dK []) (t':=s.toks) (λ_ _ q=>Qa _ q) (Qh _) (xR s.heap I.big),rfl,h _ (I.hok.fresh (Qh _))⟩
theorem aDm:PE X (.Dict [] [] pos) aGq:=λpins s σ H Q I h =>
 RaI ⟨.ref s.heap.objs.size,_,I.laid (a:=s.heap.objs.size) (o:=.dT []) (t':=s.toks) (λ_ _ q=>Qa _ q) (Qh _) (xS s.heap I.big),rfl,h _ (I.hok.fresh (Qh _))⟩
def NF (H0:Hp) (a:Addr):Prop:=∀ o u,H0 a≠some (.frz o u)
section
variable {σ:St}
theorem Inv.freeze {kvs:List (Key×V)} (I:Inv X pins σ H s) (e:H a=some (.dK kvs)) (ho:s.heap.get? a=some o):Inv X pins σ (upd H a (.frz o (.dK kvs))) s:=by
 have m:Mut (H a):=by rw [e]; trivial
 have q:bN X.prog X.w H s.heap a (.dK kvs):=I.hok a _ e
 exact I.write (x:=a) (e:=a) (t':=s.toks) m (.inl rfl) (λb u _ z=>z) ⟨o,ho⟩ ⟨ho,q⟩
theorem Inv.nf {kvs:List (Key×V)} (I:Inv X pins σ H s) (e:H a=some (.dK kvs)):NF X.H0x a:=λo u z=>by
 have:=I.base.frzs a o u z
 rw [e] at this; cases this
theorem Inv.thaw {kvs:List (Key×V)} (I:Inv X pins σ H s) (e:H a=some (.frz o (.dK kvs))) (nf:NF X.H0x a):Inv X pins σ (upd H a (.dK kvs)) s:=by
 have ne:∀ b,H b=none->b≠a:=λb n z=>by rw [z,e] at n; cases n
 have nt:∀ b xs,H b=some (.tup xs)->b≠a:=λb xs n z=>by rw [z,e] at n; cases n
 have no:∀ b x,H b=some (.own x)->b≠a:=λb xs n z=>by rw [z,e] at n; cases n
 obtain ⟨ho,q⟩:s.heap.get? a=some o/\bN X.prog X.w H s.heap a (.dK kvs):=I.hok a _ e
 have un:Un X.fs X.ex X.H0x (upd H a (.dK kvs)) X.s0x.heap s.heap:=by
  refine ⟨I.base.keep,I.base.slot,λb ob q n hx=>?_,I.base.there,λb xs q=>?_,λb ob u q=>?_,λb ps q=>?_⟩
  ·have z:=I.base.free b ob q n hx
   rw [aH (ne b z)]; exact z
  ·have z:=I.base.tups b xs q
   rw [aH (nt b xs z)]; exact z
  ·have z:=I.base.frzs b ob u q
   have n:b≠a:=λy=>nf ob u (y ▸ q)
   rw [aH n]; exact z
  ·obtain ⟨m,z⟩:=I.base.tbls b ps q
   have n:b≠a:=λy=>by rw [y,e] at z; cases z
   exact ⟨m,by rw [aH n]; exact z⟩
 refine ⟨I.ok,I.os,I.bare,un,I.loc,I.cell,?_,λx c h=>?_,λp hp=>?_,λb u h=>?_,I.len⟩
 ·rw [aH (ne _ I.free)]; exact I.free
 ·have z:=I.freeC x c h
  rw [aH (ne _ z)]; exact z
 ·obtain ⟨p1,p2,p3⟩:=I.pin p hp
  exact ⟨p1,by rw [aH (ne _ p2)]; exact p2,p3⟩
 ·by_cases hb:b=a
  ·subst hb
   rw [aB] at h
   cases h
   exact bN.stay q (λ_ _ _ z=>z) (λc z=>by rw [aH (no c _ z)]; exact z) (λc xs z=>by rw [aH (nt c xs z)]; exact z)
  ·rw [aH hb] at h
   exact bN.stay (I.hok b u h) (λ_ _ _ z=>z) (λc z=>by rw [aH (no c _ z)]; exact z) (λc xs z=>by rw [aH (nt c xs z)]; exact z)
end
def Itd (a:Addr) (o:Obj) (kvs:List (Key×V)):It :=
 ⟨λi H=>H a=some (.frz o (.dK kvs))/\i < kvs.length,λi H x H'=>H'=H/\∃ p,kvs[i]?=some p/\x=kV p.1,λi H=>H a=some (.frz o (.dK kvs))/\i=kvs.length⟩
theorem xT {k:Key} (h:(cA P w).is k u=true):bQ (kV k) u:=by
 rcases cS h with ⟨i,t,rfl,rfl⟩ | ⟨x,t,rfl,rfl⟩
 ·exact ⟨t,rfl⟩
 ·exact ⟨t,rfl⟩
theorem pA {es:Array DictEntry} {vs:List (Key×Value)} (ho:h.get? a=some o) (hd:o.data=.dict es ep) (d:h.DictOf (cA P w) a vs):h.DictAt (cA P w) a vs ep:=by
 obtain ⟨o',es',ep',q1,q2,q3,r⟩:=d
 rw [ho] at q1; cases q1
 rw [hd] at q3; cases q3
 exact ⟨o,es,ho,q2,hd,r⟩
theorem aB8 (a it:Addr) (o:Obj) (es:Array DictEntry) (ep:Nat) (hd:o.data=.dict es ep) (kvs:List (Key×V)) :
  Turn P w K tg (Itd a o kvs) [it] it (λi h=>h.IsKeyIter it a i kvs.length ep) where
 mem:=by simp
 obj:=λi h st b hb=>by
  have e:b=it:=by simpa using hb
  subst e
  obtain ⟨o,e,c,d⟩:=st
  exact ⟨o,e,λv z=>by rw [d] at z; cases z⟩
 keep:=λi h h' st k=>st.at λo e=>k it (by simp) o e
 item:=by
  intro X hP hw hK hc i pins s σ H E I hf st hg
  subst hP hw hK
  obtain ⟨hA,hi⟩:=hg
  obtain ⟨ho,hz,hs,vs,kv,dd⟩:s.heap.get? a=some o/\bN X.prog X.w H s.heap a (.dK kvs):=I.hok a _ hA
  have da:=pA ho hd dd
  have hl:kvs.length=vs.length:=kv.length
  obtain ⟨f0,f1,f2,f3,f4,f5⟩:=hf it (by simp)
  obtain ⟨⟨k,x⟩,hx⟩:∃ p,vs[i]?=some p:=⟨vs[i]'(by omega),by simp⟩
  rw [hl] at st
  refine wpAny_pyNext_dict_item st da hx λkey h' hkey st' sb=>?_
  have I1:Inv X pins σ H { s with heap:=h' }:=I.turned (t':=s.toks) (λb o hb e=>(sb.2 b hb).trans e) f0 f1 f3 f4 f5
  obtain ⟨o',e',c',d'⟩:=id st'
  have hk:kvs[i]?=some (kvs[i]):=Qc hi
  have hkk:(kvs[i]).1=k:=by
   have e:=kv.keys
   have e1:(kvs.map (·.1))[i]?=some (kvs[i]).1:=by rw [Qe,hk]; rfl
   have e2:(vs.map (·.1))[i]?=some k:=by rw [Qe,hx]; rfl
   rw [e,e2] at e1
   exact (Option.some.inj e1).symm
  rw [<- hl] at st'
  exact ⟨key,rfl,wR (s:={ s with heap:=h' }) e' c' d' (by decide) ⟨kV k,H,I1,xT hkey,⟨rfl,_,hk,by rw [hkk]⟩,st',λb hb=>(hf b hb).1⟩⟩
 done:=by
  intro X hP hw hK hc i pins s σ H E I hf st hg
  subst hP hw hK
  obtain ⟨hA,hi⟩:=hg
  obtain ⟨ho,hz,hs,vs,kv,dd⟩:s.heap.get? a=some o/\bN X.prog X.w H s.heap a (.dK kvs):=I.hok a _ hA
  have da:=pA ho hd dd
  have hl:kvs.length=vs.length:=kv.length
  obtain ⟨f0,f1,f2,f3,f4,f5⟩:=hf it (by simp)
  rw [hl] at st
  exact wpAny_pyNext_dict_end (I.ok.hd hc) st da (by simp; omega) λh' eb=>⟨rfl,I.turned (t':=s.toks) (λb o hb e=>eb b o hb e) f0 f1 f3 f4 f5⟩
 self:=λ_ _ _ _ _ st h=>Ras st h
def aHo (H0:Hp) (td:TE):TI:=λσ H R=>td σ H λx H1=>∃ a kvs,x=.ref a/\H1 a=some (.dK kvs)/\∀ o,NF H0 a->R (Itd a o kvs) (upd H1 a (.frz o (.dK kvs)))
theorem aEU {d:Expr} (hl:PE X d td):PI X tg d (aHo X.H0x td):=by
 intro pins s σ H R I h
 refine thn (hl pins s σ H _ I h) λv s1 hx9=>?_
 obtain ⟨x,H1,I1,r1,q1⟩:=hx9
 obtain ⟨a,kvs,e,hq,q⟩:=q1
 subst e
 cases r1
 obtain ⟨hz,hs,vs,kv,dd⟩:bN X.prog X.w H1 s1.heap a (.dK kvs):=I1.hok a _ hq
 obtain ⟨o,es,ep,ho,oe,hd,r⟩:=id dd
 have da:=pA ho hd dd
 refine RaE hs da ?_
 have I2:=(I1.freeze hq ho).kept (h':=s1.heap.push { cls:=.type "dict_keyiterator",data:=.fields #[.ref a,.int 0 0,.int vs.length 0,.int ep 0] }) (t':=s1.toks) λb o e=>Qa _ e
 have nA:a≠s1.heap.objs.size:=Qz (Qm ho)
 refine ⟨s1.heap.objs.size,[s1.heap.objs.size],_,_,_,rfl,I2,aB8 a _ o es ep hd kvs,?_,λb hb=>?_,q o (I1.nf hq)⟩
 ·refine ⟨_,Qg _ rfl,rfl,?_⟩
  rw [kv.length]; rfl
 ·have e:b=s1.heap.objs.size:=by simpa using hb
  subst e
  exact I1.fpOk (Qh _) (by rw [aH (Ne.symm nA)]; exact I1.hok.fresh (Qh _))
def aHp (H0:Hp) (t:TS):TS:=λD σ H=>t { D with nx:=λσ' H'=>∃ a o kvs,H' a=some (.frz o (.dK kvs))/\NF H0 a/\D.nx σ' (upd H' a (.dK kvs)) } σ H
theorem aEV {t:TS} (h:PS X st t):PS X st (aHp X.H0x t):=by
 intro pins s σ H D I q
 refine thn (h pins s σ H _ I q) λf s1 z=>?_
 cases f with
 | next =>
  obtain ⟨σ',H',I',a,o,kvs,e,nf,k⟩:=z
  exact ⟨σ',_,I'.thaw e nf,k⟩
 | brk=>exact z
 | cont=>exact z
 | ret u=>exact z
theorem aDn {kvs:List (Key×V)} {D:Ends} {σ:St} (Pv:Nat->St->Hp->Prop) (h0:Pv 0 σ H) (hl:∀ i σ H,i<=kvs.length->Pv i σ H->H a=some (.frz o (.dK kvs))) (hs:∀ i p σ H,kvs[i]?=some p->Pv i σ H->g (kV p.1) σ H λσ2 H2=>tb { D with nx:=Pv (i+1),ct:=Pv (i+1),bk:=D.nx } σ2 H2) (hd:∀ σ H,Pv kvs.length σ H->D.nx σ H) :
  ∃ W:Nat->Nat->St->Hp->Prop,(∃ m,W 0 m σ H)/\∀ i m σ H,W i m σ H ->
   ((Itd a o kvs).stop i H/\D.nx σ H)∨((Itd a o kvs).go i H/\∃ N:St->Hp->Prop,(∀ σ' H',N σ' H'->∃ m',m' < m/\W (i+1) m' σ' H')/\∀ x H',(Itd a o kvs).yld i H x H'->g x σ H' λσ2 H2=>tb { D with nx:=N,ct:=N,bk:=D.nx } σ2 H2):=by
 refine ⟨λi m σ H=>m=kvs.length - i/\i<=kvs.length/\Pv i σ H,⟨kvs.length,by simp,Jr _,h0⟩,?_⟩
 rintro i m σ H ⟨rfl,hi,p⟩
 have q:=hl i σ H hi p
 by_cases hlt:i < kvs.length
 ·refine .inr ⟨⟨q,hlt⟩,Pv (i+1),λσ' H' p'=>⟨kvs.length - (i+1),by omega,rfl,hlt,p'⟩,λx H' y=>?_⟩
  obtain ⟨rfl,v,hv,rfl⟩:=y
  exact hs i v σ H' hv p
 ·have e:i=kvs.length:=by omega
  subst e
  exact .inl ⟨⟨q,rfl⟩,hd σ H p⟩
def aGr (tk tv:TE):TE:=λσ H Q=>∀ p,H p=none->tk σ (upd H p (.dK [])) λx H1=>tv σ H1 λy H2=>∃ k,x=kV k/\H2 p=some (.dK [])/\Q (.ref p) (upd H2 p (.dK [(k,y)]))
section
variable {ek ev:Expr}
theorem aDo (hk:PE X ek tk) (hv:PE X ev tv) (he:evalEachOpt [some ek] X.env = [some (eval ek X.env)]:=by rfl) (he2:evalEach [ev] X.env = [eval ev X.env]:=by rfl):PE X (.Dict [some ek] [ev] pos) (aGr tk tv):=by
 intro pins s σ H Q I h
 have I0:Inv X pins σ (upd H s.heap.objs.size (.dK [])) { s with heap:=s.heap.push { cls:=.type "dict",data:=.dict #[] } }:=I.laid (a:=s.heap.objs.size) (o:=.dK []) (t':=s.toks) (λ_ _ q=>Qa _ q) (Qh _) (xR s.heap I.big)
 have h0:=h s.heap.objs.size (I.hok.fresh (Qh _))
 refine wpAny_Dict_pairs (knd:=cA X.prog X.w) (pairs:=[(eval ek X.env,do let x<-eval ev X.env; standAt pos; pure x)]) (by rw [he,he2]; rfl) (by simp) (by simp) ?_
 refine evalPairs_cons (thn (hk pins _ σ _ _ I0 h0) λkv s1 hx9=>?_)
 obtain ⟨x,H1,I1,r1,q1⟩:=hx9
 refine Ra (thn (hv pins _ σ _ _ I1 q1) λvv s2 hx9=>?_)
 obtain ⟨y,H2,I2,r2,q2⟩:=hx9
 refine Ra (Tg (Rb (evalPairs_nil ?_)))
 obtain ⟨k,rfl,hp,q⟩:=q2
 obtain ⟨hz,hs,vs,kv',dd⟩:bN X.prog X.w H2 s2.heap s.heap.objs.size (.dK []):=I2.hok _ _ hp
 have ev0:vs = []:=by
  have:=kv'.length
  exact Jp.mp this.symm
 subst ev0
 refine ⟨[(k,vv)],⟨xO r1,rfl,trivial⟩,dd,λh' dd' sb=>?_⟩
 have em:merged ([]:List (Key×Value)) [(k,vv)] = [(k,vv)]:=by simp [merged,stored]
 rw [em] at dd'
 obtain ⟨o',es',ep',ho',_⟩:=id dd'
 have mu:Mut (H2 s.heap.objs.size):=by rw [hp]; trivial
 refine ⟨.ref s.heap.objs.size,_,qK (t':=s2.toks+1) I2 mu sb ⟨_,ho'⟩ (aDk (kvs:=[(k,y)]) (by simp [Rf]) hs (.cons ⟨rfl,r2⟩ .nil) dd'),rfl,q⟩
end
def jM (h:Heap) (u:Value) (i:Int) (v:Value):Prop:=∃ p,u=.ref p/\((∃ its:Array Value,h.IsTuple p its/\0<=i/\i < 1000/\its[i.toNat]?=some v)∨∃ its:Array Value,h.IsList p its/\0<=i/\i < 1000/\its[i.toNat]?=some v)
theorem jM.keeps {i:Int} {v:Value} (x:jM h u i v) (k:∀ b o,h.get? b=some o->h'.get? b=some o):jM h' u i v:=by
 obtain ⟨p,rfl,⟨its,⟨o,ho,r⟩,q⟩ | ⟨its,⟨o,ho,r⟩,q⟩⟩:=x
 ·exact ⟨p,rfl,.inl ⟨its,⟨o,k _ _ ho,r⟩,q⟩⟩
 ·exact ⟨p,rfl,.inr ⟨its,⟨o,k _ _ ho,r⟩,q⟩⟩
theorem nM {i:Int} {n:Nat} (h0:0<=i) (h1:i.toNat < n):seqIndex? i n=some i.toNat:=by
 unfold seqIndex?
 have e:¬ (i < 0):=by omega
 simp only [e,if_false]
 have e2:(decide (0<=i) && decide (i < (n:Int)))=true:=by simp; omega
 rw [if_pos e2]
theorem aEW {env:Env} {m:Str->Option Value} {v:Value} {i:Int} {t:Tok} (hk:env.scope.kind=.function) (hv:env.kindOf vn=some .free) (hx:env.kindOf xn=some .local) (hc:env.cells.lookup vn=some c) (hC:s.heap.IsCell c (some u)) (hn:s.heap.Ns env.locals m) (hm:m xn=some (.int i t)) (hI:jM s.heap u i v) (h:Q v s) (d1:(vn==("__debug__" : Str))=false) (d2:(vn==("__classdict__" : Str))=false) (d3:(xn==("__debug__" : Str))=false) :
  wpAny (model prog w) A (eval (.Subscript (.Name vn p1) (.Name xn p2) p3) env) Q E s:=by
 refine Io (Ik (Rav hk hv hc hC ?_ d2) d1)
 refine Ik (Rao hk hx hn hm ?_) d3
 obtain ⟨p,rfl,⟨its,hp,i0,i1,e⟩ | ⟨its,hp,i0,i1,e⟩⟩:=hI
 ·have hlt:i.toNat < its.size:=(Array.getElem?_eq_some_iff.mp e).1
  exact Uv (x:=v) hp.typeIs slot_tuple_getitem.lookup
   (getItem_tuple (j:=i.toNat) (Q:=λr s'=>r=v/\Q r s') hp (by omega) (by omega) (nM i0 hlt) e ⟨rfl,h⟩)
 ·have hlt:i.toNat < its.size:=(Array.getElem?_eq_some_iff.mp e).1
  exact Uv (x:=v) hp.typeIs slot_list_getitem.lookup
   (wpAny_getItem_list (Q:=λr s'=>r=v/\Q r s') hp (by omega) (by omega) e ⟨rfl,h⟩)
theorem aDp {c':Addr} {q nm:Str} {ctv v:Value} {i:Int} {t:Tok} (hroom:A.depth < recursionLimit) (hlim:s.heap.NoLimit) (hf:s.heap.get? f=some { cls:=.type "function",data:=.func (Ur nm q params (.Subscript (.Name vn p1) (.Name xn p2) p3) scope cl pm (.ref c') ctv) }) (hcd:s.heap.CodeRec (.ref c') q) (hbind:bindArgs (Ur nm q params (.Subscript (.Name vn p1) (.Name xn p2) p3) scope cl pm (.ref c') ctv) ⟨[.int i t],[]⟩=pure [(xn,.int i t)]) (hx:scope.names.lookup xn=some .local) (hv:scope.names.lookup vn=some .free) (hco:scope.isCoroutine=false) (hgen:scope.isGenerator=false) (hk:scope.kind=.function) (hcell:∀ x∈scope.names,x.2≠.cell) (hc:cl.lookup vn=some c) (hC:s.heap.IsCell c (some u)) (hI:jM s.heap u i v) (h:∀ h' tk,(∀ b o,s.heap.get? b=some o->h'.get? b=some o)->Q v { s with heap:=h',toks:=tk }) (d1:(vn==("__debug__" : Str))=false) (d2:(vn==("__classdict__" : Str))=false) (d3:(xn==("__debug__" : Str))=false) :
  wpAny (model prog w) A (call (.ref f) [.int i t]) Q E s:=by
 refine Im (PySem.W.kla_callFunE hroom hf rfl hco hgen rfl hcd ?_)
 rw [hbind]
 refine Rb (Raq hcell (λy hy=>by rw [Qo.mp hy]; exact hx) (λh1x hns hsb=>⟨hlim.fresh _ hsb,?_⟩) hk)
 have hk1x:∀ b o,s.heap.get? b=some o->h1x.get? b=some o:=λb o e=>hsb.extBut b o (Qz (Qm e)) (Qa _ e)
 obtain ⟨oc,hoc,hdc⟩:=hC
 refine PySem.W.kla_codeExpr (aEW (env:=newEnv scope s.heap.objs.size mainGlobals cl (q ++ ".<locals>.") (some f) (.ref c') none builtinsNs) (m:=λx=>[(xn,Value.int i t)].reverse.lookup x) (t:=t) hk hv hx hc ⟨oc,hk1x _ _ hoc,hdc⟩ hns ?_ (hI.keeps hk1x) (h h1x _ hk1x) d1 d2 d3)
 simp [List.lookup]
section
variable {wr:List Addr} {n:Nat} {Pv:Nat->Value->Prop} {St:Nat->Heap->Prop} {kf:Nat->Int} {L:List (Addr×Obj)}
def aDq (prog:Program) (w:World) (A:Around) (f:Addr) (L:List (Addr×Obj)) (n:Nat) (Pv:Nat->Value->Prop) (kf:Nat->Int):Prop :=
 ∀ i v (s:Shared) (Q:Value->Shared->Prop) (E:Value->Shared->Prop),i < n->Pv i v->(∀ p∈L,s.heap.get? p.1=some p.2) ->
  (∀ h' tk t,(∀ b o,s.heap.get? b=some o->h'.get? b=some o)->Q (.int (kf i) t) { s with heap:=h',toks:=tk })->wpAny (model prog w) A (call (.ref f) [v]) Q E s
abbrev btK (kf:Nat->Int):Nat->Nat->Bool:=λi j=>decide (kf i < kf j)
theorem vF (W:Walks prog w A.in1 I fp wr n Pv St) (hkey:aDq prog w A.in1 f L n Pv kf) (S:Addr) (hSf:S∉fp) (hL:∀ p∈L,p.1∉wr/\p.1≠S) :
  ∀ (k j:Nat) (s:Shared) (vb:Value) (t:Tok) (c:Nat),n - (j+1)=k->j+1<=n->St (j+1) s.heap->Pv (argBest (btK kf) j) vb ->
  s.heap.get? S=some { cls:=.type "list",dict:=none,data:=.seq #[vb,.int (kf (argBest (btK kf) j)) t] c,slots:=#[] }->(∀ p∈L,s.heap.get? p.1=some p.2) ->
  (∀ v h' tk,Pv (argBest (btK kf) (n - 1)) v->(∀ b o,b∉wr->b≠S->s.heap.get? b=some o->h'.get? b=some o)->R (.ok (.ret v)) { s with heap:=h',toks:=tk }) ->
  codeAny (model prog w) A (.builtin "min.loop" ⟨[.ref I,.ref f,.ref S],[]⟩) R s:=by
 have hSw:S∉wr:=λh=>hSf (W.sub _ h)
 have hname:(toString "min" ++ toString ".loop" : String) = "min.loop" := by decide
 intro k
 induction k with
 | zero =>
  intro j s vb t c hk hj hst hPb hS hLs hR
  have hin:j+1=n:=by omega
  refine Ta F.entry_min_loop ?_
  rw [Around.under_plainId F.plain_min_loop _]
  show wpAny _ A.in1 (seqItems? (.ref S) >>= _) _ _ s
  refine Ra (Ro hS rfl ?_)
  show wpAny _ A.in1 (tryCatch (pyNext (.ref I)) _ >>= _) _ _ s
  refine Ra (Uy (W.done s _ _ (hin ▸ hst) λh' tk kk=>?_))
  have hS':=kk S _ hSw hS
  show wpAny _ A.in1 (updateSeq S (λ_=>#[]) >>= _) _ _ _
  refine Ra ?_
  refine Vg hS' rfl (Ra (Th (Rb ?_)))
  exact hR vb _ _ (by rw [<- hin]; exact hPb) λb o hb hbS e=>(Jm _ _ (Ne.symm hbS)).trans (kk b o hb e)
 | succ k ih =>
  intro j s vb t c hk hj hst hPb hS hLs hR
  have hlt:j+1 < n:=by omega
  refine Ta F.entry_min_loop ?_
  rw [Around.under_plainId F.plain_min_loop _]
  show wpAny _ A.in1 (seqItems? (.ref S) >>= _) _ _ s
  refine Ra (Ro hS rfl ?_)
  show wpAny _ A.in1 (tryCatch (pyNext (.ref I)) _ >>= _) _ _ s
  refine Ra (Uy (W.item (j+1) s _ _ hlt hst λv h1 tk1 hP hst1 kk1=>?_))
  have hS1:=kk1 S _ hSw hS
  show wpAny _ A.in1 (tryCatch (holding [v] (call (.ref f) [v])) _ >>= _) _ _ _
  refine Ra (Uy (Rl (hkey (j+1) v _ _ _ hlt hP (λp hp=>kk1 _ _ (hL p hp).1 (hLs p hp)) λh2 tk2 t2 kk2=>?_)))
  have hS2:=kk2 S _ hS1
  have hst2:St (j+1+1) h2:=W.frame _ _ _ hst1 λb _ o e=>kk2 b o e
  show wpAny _ A.in1 (tryCatch (holding [v,.int (kf (j+1)) t2] (richCompare .Lt (.int (kf (j+1)) t2) (.int (kf (argBest (btK kf) j)) t) >>= _)) _ >>= _) _ _ _
  have hcmp:CmpOf prog w A.in1 .Lt (λi u=>∃ t,u=.int (kf i) t) (btK kf):=CmpOf.ints_lt kf λi v h=>h
  refine Ra (Uy (Rl (Ra (hcmp (j+1) (argBest (btK kf) j) _ _ _ _ _ ⟨_,rfl⟩ ⟨_,rfl⟩ ?_))))
  refine Ra (Rl (Rt ?_))
  refine Ra (Th (Rb ?_))
  have kk:∀ b o,b∉wr->s.heap.get? b=some o->h2.get? b=some o:=λb o hb e=>kk2 b o (kk1 b o hb e)
  cases hb:btK kf (j+1) (argBest (btK kf) j) with
  | true =>
   simp only [if_true]
   refine Ra ?_
   refine Vg hS2 rfl (Ra (Th ?_))
   rw [hname]
   have eb:argBest (btK kf) (j+1)=j+1:=by simp only [argBest,hb,if_true]
   refine Rb ⟨Tt F.plain_min_loop _,ih (j+1) _ v t2 _ (by omega) hlt (W.frame _ _ _ hst2 λb hbf o e=>?_) (by rw [eb]; exact hP) (by rw [eb]; exact Xc _ hS2 rfl) (λp hp=>?_) λv' h' tk hP' kk'=>?_⟩
   ·exact (Jm _ _ (λh:S=b=>hSf (by rw [h]; exact hbf))).trans e
   ·exact (Jm _ _ (Ne.symm (hL p hp).2)).trans (kk _ _ (hL p hp).1 (hLs p hp))
   ·exact hR v' h' tk hP' λb o hb hbS e=>kk' b o hb hbS ((Jm _ _ (Ne.symm hbS)).trans (kk b o hb e))
  | false =>
   simp only [Jg,if_false]
   refine Ra (Th ?_)
   rw [hname]
   have eb:argBest (btK kf) (j+1)=argBest (btK kf) j:=by simp only [argBest,hb,Jg,if_false]
   refine Rb ⟨Tt F.plain_min_loop _,ih (j+1) _ vb t c (by omega) hlt hst2 (by rw [eb]; exact hPb) (by rw [eb]; exact hS2) (λp hp=>kk _ _ (hL p hp).1 (hLs p hp)) λv' h' tk hP' kk'=>?_⟩
   exact hR v' h' tk hP' λb o hb hbS e=>kk' b o hb hbS (kk b o hb e)
theorem tD (W:Walks prog w A.in1 I fp wr n Pv St) (hkey:aDq prog w A.in1 f L n Pv kf) (S:Addr) (hSf:S∉fp) (hL:∀ p∈L,p.1∉wr/\p.1≠S) (hn:0 < n) {c:Nat} (hst:St 0 s.heap) (hS:s.heap.get? S=some { cls:=.type "list",dict:=none,data:=.seq #[] c,slots:=#[] }) (hLs:∀ p∈L,s.heap.get? p.1=some p.2) (hR:∀ v h' tk,Pv (argBest (btK kf) (n - 1)) v->(∀ b o,b∉wr->b≠S->s.heap.get? b=some o->h'.get? b=some o)->R (.ok (.ret v)) { s with heap:=h',toks:=tk }) :
  codeAny (model prog w) A (.builtin "min.loop" ⟨[.ref I,.ref f,.ref S],[]⟩) R s:=by
 have hSw:S∉wr:=λh=>hSf (W.sub _ h)
 have hname:(toString "min" ++ toString ".loop" : String) = "min.loop" := by decide
 refine Ta F.entry_min_loop ?_
 rw [Around.under_plainId F.plain_min_loop _]
 show wpAny _ A.in1 (seqItems? (.ref S) >>= _) _ _ s
 refine Ra (Ro hS rfl ?_)
 show wpAny _ A.in1 (tryCatch (pyNext (.ref I)) _ >>= _) _ _ s
 refine Ra (Uy (W.item 0 s _ _ hn hst λv h1 tk1 hP hst1 kk1=>?_))
 have hS1:=kk1 S _ hSw hS
 show wpAny _ A.in1 (tryCatch (holding [v] (call (.ref f) [v])) _ >>= _) _ _ _
 refine Ra (Uy (Rl (hkey 0 v _ _ _ hn hP (λp hp=>kk1 _ _ (hL p hp).1 (hLs p hp)) λh2 tk2 t2 kk2=>?_)))
 have hS2:=kk2 S _ hS1
 have hst2:St (0+1) h2:=W.frame _ _ _ hst1 λb _ o e=>kk2 b o e
 show wpAny _ A.in1 (updateSeq S (λ_=>#[v,.int (kf 0) t2]) >>= _) _ _ _
 refine Ra ?_
 refine Vg hS2 rfl ?_
 rw [hname]
 have kk:∀ b o,b∉wr->s.heap.get? b=some o->h2.get? b=some o:=λb o hb e=>kk2 b o (kk1 b o hb e)
 refine Rb ⟨Tt F.plain_min_loop _,vF W hkey S hSf hL _ 0 _ v t2 _ rfl hn (W.frame _ _ _ hst2 λb hbf o e=>?_) hP (Xc _ hS2 rfl) (λp hp=>?_) λv' h' tk hP' kk'=>?_⟩
 ·exact (Jm _ _ (λh:S=b=>hSf (by rw [h]; exact hbf))).trans e
 ·exact (Jm _ _ (Ne.symm (hL p hp).2)).trans (kk _ _ (hL p hp).1 (hLs p hp))
 ·exact hR v' h' tk hP' λb o hb hbS e=>kk' b o hb hbS ((Jm _ _ (Ne.symm hbS)).trans (kk b o hb e))
theorem vG (a k:Value):argsOk "min" ⟨[a],[(Str.ofString "key",k)]⟩:=by unfold argsOk; kernel_rfl
theorem vH {id:String} {b:Builtin} {args:List Value} {kw:List (Str×Value)} (hk:builtinKind id=none) (hp:plainId id=true) (hb:entryFor table id=some b) (ha:argsOk id ⟨args,kw⟩) (hc:wpAny (model prog w) A.in1 (b ⟨args,kw⟩) (λfin s'=>match fin with
   | .done f=>(match (Except.ok f:Result) with | .ok (.ret v)=>Q v s' | .ok _=>False | .error e=>E e s')
   | .again c'=>c'.quiet=true/\codeAny (model prog w) A c' (λr s'=>match r with | .ok (.ret v)=>Q v s' | .ok _=>False | .error e=>E e s') s') E s) :
  wpAny (model prog w) A (call (.builtin id) args kw) Q E s:=by
 refine Im (Vz hp hb ?_)
 simp only [checkBuiltinCall,hk]
 cases hsig:Manifest.signature? id with
 | none=>exact Rb hc
 | some sig =>
  simp only [argsOk,hsig] at ha
  have h2:Bind.checkArgs id sig ⟨args,kw⟩=pure ():=ha
  show wpAny _ A.in1 (Bind.checkArgs id sig ⟨args,kw⟩) _ _ s
  rw [h2]; exact Rb hc
theorem vI {x:Value} (h:wpAny (model prog w) A.in1 (pyIter x) (λit s2x=>∃ I fp wr n Pv St kf L,it=.ref I/\Walks prog w A.in1 I fp wr n Pv St/\St 0 s2x.heap/\(∀ b∈fp,b < s2x.heap.objs.size)/\0 < n/\aDq prog w A.in1 f L n Pv kf /\
   (∀ p∈L,p.1∉wr)/\(∀ p∈L,s2x.heap.get? p.1=some p.2) /\
   ∀ v h' tk,Pv (argBest (btK kf) (n - 1)) v->(∀ b o,b∉wr->s2x.heap.get? b=some o->h'.get? b=some o)->Q v { s2x with heap:=h',toks:=tk }) E s) :
  wpAny (model prog w) A (call (.builtin "min") [x] [(Str.ofString "key",.ref f)]) Q E s:=by
 have hname:(toString "min" ++ toString ".loop" : String) = "min.loop" := by decide
 refine vH F.kind_min F.plain_min F.entry_min (vG _ _) ?_
 show wpAny _ A.in1 (Builtin.Builtins.bindParams "min" ["key", "default"] 0 ⟨[],[(Str.ofString "key",.ref f)]⟩ >>= _) _ _ s
 refine Ra (Vl (show Builtin.Builtins.bindParams "min" ["key", "default"] 0 ⟨[],[(Str.ofString "key",.ref f)]⟩=pure [some (.ref f),none] from rfl) ?_)
 refine Ra (Rb ?_)
 refine Ra (Rn h (λit s2x h2x=>?_) λ_ _ e=>e)
 obtain ⟨I,fp,wr,n,Pv,St,kf,L,rfl,W,hst,hfp,hn,hkey,hLw,hLs,hQ⟩:=h2x
 refine Ra (Rk ?_)
 have hSf:s2x.heap.objs.size∉fp:=λhm=>Ju _ (hfp _ hm)
 rw [hname]
 refine Rb ⟨Tt F.plain_min_loop _,tD W hkey s2x.heap.objs.size hSf (λp hp=>⟨hLw p hp,Qz (Qm (hLs p hp))⟩) hn (W.frame _ _ _ hst λb _ o e=>Qa _ e) (Qg _ rfl) (λp hp=>Qa _ (hLs p hp)) λv h' tk hP hk=>?_⟩
 exact hQ v h' tk hP λb o hbw e=>hk b o hbw (Qz (Qm e)) (Qa _ e)
end
structure Lm (K:Rc) (mg:Str->Option Value) (base:Heap) (c P:Addr):Prop where
 hd:Ia K c P=true
 gP:mainGlobals≠P
 bu:base.BuiltinsAt mg P
theorem mL {p0:Pos} {c cv:Value}:∀ {l:List Value},TriplesOk l->codeAmong pos (l++[rawInt p0.line,rawInt p0.col,c])=some cv->codeAmong pos l=some cv∨cv=c
 | [],_,e=>by
  simp only [Zw,rawInt,codeAmong] at e
  split at e
  ·exact .inr (Option.some.inj e).symm
  ·cases e
 | .int a t::.int b u::x::r,h,e=>by
  simp only [Wn,codeAmong] at e ⊢
  split
  ·rename_i hc
   rw [if_pos hc] at e
   exact .inl e
  ·rename_i hc
   rw [if_neg hc] at e
   exact mL (show TriplesOk r from h) e
section
variable {σ:St} {P c':Addr} {q:Str} {ps:Array Value}
theorem Inv.grown {p0:Pos} (I:Inv X pins σ H s) (hT:H P=some (.tab q)) (hx:Heap.ExtBut P s.heap h') (hge:s.heap.objs.size<=c') (hcr:h'.CodeRec (.ref c') q) (hP0:s.heap.get? P=some (Rv ps)) (hPt:h'.get? P=some (Rv (ps++#[rawInt p0.line,rawInt p0.col,.ref c']))) :
  Inv X pins σ (upd H c' (.own P)) { s with heap:=h',toks:=t' }:=by
 have hf:H c'=none:=I.hok.fresh hge
 have hn:∀ b,H b=none->b≠P:=λb n z=>by rw [z,hT] at n; cases n
 have hc:∀ b u,H b=some u->b≠c':=λb u n z=>by rw [z,hf] at n; cases n
 have hlt:∀ b o,s.heap.get? b=some o->b≠c':=λb o e=>Qz (Qx (Qm e) hge)
 obtain ⟨c2,oc,vs,tq,ec,hoc,hdc,hv⟩:=hcr
 cases ec
 refine I.un ⟨λb o e n _ _=>hx b o (hn b n) e,λb o e n _ _=>⟨o.slots,hx b o (hn b n) e⟩,λb o e n _=>by rw [aH (hlt b o e)]; exact n,λb o e _=>?_,λb xs e=>by rw [aH (hc b _ e)]; exact e,λb o u e=>by rw [aH (hc b _ e)]; exact e,λb ps e=>⟨#[],by rw [aH (hc b _ e),e]; simp⟩⟩ ?_
 ·by_cases hb:b=P
  ·subst hb; exact ⟨_,hPt⟩
  ·exact ⟨o,hx b o hb e⟩
 ·intro b u e
  by_cases hb:b=c'
  ·subst hb
   rw [aB] at e; cases e
   exact ⟨oc,hoc⟩
  ·rw [aH hb] at e
   by_cases hbP:b=P
   ·subst hbP
    rw [hT] at e; cases e
    obtain ⟨ps0,e0,tr,r⟩:∃ ps:Array Value,s.heap.get? b=some { cls:=.none,data:=.fields ps }/\TriplesOk ps.toList/\∀ (pos:Pos) (cv:Value),codeAmong pos ps.toList=some cv->∃ (c:Addr) (o:Obj) (vs:Array Value) (t:Tok),cv=.ref c/\H c=some (.own b)/\s.heap.get? c=some o/\o.data=.fields vs/\(vs[1]?:Option Value)=some (.str q t):=I.hok b _ hT
    rw [hP0] at e0
    cases e0
    have el:(ps++#[rawInt p0.line,rawInt p0.col,Value.ref c']).toList=ps.toList++[rawInt p0.line,rawInt p0.col,.ref c']:=by simp
    refine ⟨_,hPt,by rw [el]; exact TriplesOk_snoc _ _ _ _ tr,λpos cv z=>?_⟩
    rw [el] at z
    rcases mL tr z with z | rfl
    ·obtain ⟨c3,o3,vs3,t3,r1,r2,r3,r4⟩:=r pos cv z
     have n3:c3≠b:=λy=>by rw [y,hT] at r2; cases r2
     exact ⟨c3,o3,vs3,t3,r1,by rw [aH (hc _ _ r2)]; exact r2,hx _ _ n3 r3,r4⟩
    ·exact ⟨c',oc,vs,tq,rfl,aB,hoc,hdc,hv⟩
   ·refine (I.hok b u e).stay (λd v hd z=>hx d v ?_ z) (λd z=>by rw [aH (hc _ _ z)]; exact z) λd xs z=>by rw [aH (hc _ _ z)]; exact z
    rcases hd with rfl | hd
    ·exact hbP
    ·intro z
     rw [z,hT] at hd; cases hd
theorem aDr {body:Expr} (I:Inv X pins σ H s) (Z:Lm X.K X.mg X.base c P) (hcode:X.env.code=.ref c) (hT:H P=some (.tab q)) (hq:X.env.qual ++ "<lambda>" = q) (hdef:defaultsOf params X.env=([],[])) (hcl:closureFor scope X.env=pure cl) (h:∀ f c' ctv pm s' H',Inv X pins σ H' s'->aD H H'->(∀ b o,b≠P->s.heap.get? b=some o->s'.heap.get? b=some o) ->
   s'.heap.get? f=some { cls:=.type "function",data:=.func (Ur "<lambda>" q params body scope cl pm (.ref c') ctv) }->s'.heap.CodeRec (.ref c') q->Q (.ref f) s') :
  wpAny (model X.prog X.w) X.A (eval (.Lambda params body scope pos) X.env) Q E s:=by
 obtain ⟨ps,hP,tr,r⟩:∃ ps:Array Value,s.heap.get? P=some { cls:=.none,data:=.fields ps }/\TriplesOk ps.toList/\∀ (pos:Pos) (cv:Value),codeAmong pos ps.toList=some cv->∃ (c:Addr) (o:Obj) (vs:Array Value) (t:Tok),cv=.ref c/\H c=some (.own P)/\s.heap.get? c=some o/\o.data=.fields vs/\(vs[1]?:Option Value)=some (.str q t):=I.hok P _ hT
 have hg:s.heap.Ns mainGlobals X.mg:=I.mod.glob.keeps I.bk
 have C:Vo s.heap c P:=Mu I.kIn Z.hd
 have hb:s.heap.BuiltinsAt X.mg P:=by
  obtain ⟨bm,o,e1,e2,e3,e4,e5,e6⟩:=Z.bu
  exact ⟨bm,o,e1,e2,e3,e4,I.bk _ _ e5,e6⟩
 refine PySem.W.kla_eval hdef ?_
 rw [hq]
 cases hf:codeAmong pos ps.toList with
 | none =>
  refine PySem.W.kla_makeFunction hcl I.ok.glob hg hcode C hP tr hf Z.gP hb λc' ctv h' tk hx hge hlt hcr hPt=>?_
  have I1:Inv X pins σ (upd H c' (.own P)) { s with heap:=h',toks:=tk }:=I.grown hT hx hge hcr hP hPt
  have I2:=I1.kept (h':=h'.push (PySem.W.kla_obj "<lambda>" q params body scope cl ((X.mg "__name__").getD .none) c' ctv)) (t':=tk) λb o e=>Qa _ e
  refine h _ c' ctv _ _ _ I2 (aD.new (I.hok.fresh hge)) (λb o hbP e=>Qa _ (hx b o hbP e)) (Qg _ rfl) ?_
  obtain ⟨c2,oc,vs,tq,ec,hoc,r⟩:=hcr
  exact ⟨c2,oc,vs,tq,ec,Qa _ hoc,r⟩
 | some cv =>
  obtain ⟨c',o,vs,t,rfl,r2,r3,r4,r5⟩:=r pos cv hf
  refine PySem.W.kla_makeFunctionHit hcl I.ok.glob hg hcode C hP tr hf hb λctv h' tk kk hsz=>?_
  have I2:=I.kept (h':=h'.push { cls:=.type "function",data:=.func (Ur "<lambda>" q params body scope cl ((X.mg "__name__").getD .none) (.ref c') ctv) }) (t':=tk) λb o e=>Qa _ (kk b o e)
  exact h _ c' ctv _ _ _ I2 (aD.refl H) (λb o _ e=>Qa _ (kk b o e)) (Qg _ rfl) ⟨c',o,vs,t,rfl,Qa _ (kk _ _ r3),r4,r5⟩
end
theorem mM (num:Nat->Int):∀ k,∀ l,l < argBest (btK num) k->num (argBest (btK num) k) < num l
 | 0=>λl hl=>by simp [argBest] at hl
 | k+1=>λl hl=>by
  have h2:=(Raz num k).2
  simp only [argBest] at hl ⊢
  by_cases hc:num (k+1) < num (argBest (btK num) k)
  ·rw [if_pos (show btK num (k+1) (argBest (btK num) k)=true from decide_eq_true hc)] at hl ⊢
   have:=h2 l (by omega)
   show num (k+1) < num l
   have e:num (argBest (λi j=>decide (num i < num j)) k)=num (argBest (btK num) k):=rfl
   omega
  ·rw [if_neg (show ¬ btK num (k+1) (argBest (btK num) k)=true from λz=>hc (of_decide_eq_true z))] at hl ⊢
   exact mM num k l hl
def aA1 (K:Rc) (H:Hp) (x:V) (ns:List Int):Prop:=∃ a,x=.ref a/\(SqL K H a (ns.map V.int)∨SqT K H a (ns.map V.int)∨∃ kvs:List (Key×V),H a=some (.dK kvs)/\kvs.map (·.1)=ns.map Sum.inl)
def aA2 (K:Rc) (H:Hp) (u:V) (n k:Int):Prop:=0<=n/\n < 1000/\∃ a xs,u=.ref a/\(SqT K H a xs∨SqL K H a xs)/\xs[n.toNat]?=some (.int k)
def aEX (K:Rc) (P:Addr) (q:Str) (iv:Nat) (te:TE):TE:=λσ H Q=>te σ H λx H1=>∃ (ns:List Int) (kf:Int->Int) (u:V),aA1 K H1 x ns/\0 < ns.length/\H1 P=some (.tab q)/\σ[iv]?=some (some u)/\(∀ n∈ns,aA2 K H1 u n (kf n)) /\
 ∀ (j:Nat) (m:Int) (H2:Hp),aD H1 H2->ns[j]?=some m->(∀ n∈ns,kf m<=kf n)->(∀ (l:Nat) (n:Int),l < j->ns[l]?=some n->kf m < kf n)->Q (.int m) H2
section
variable {σ:St}
theorem zZ (hh:A.handled=none) (I:Inv X pins σ H s) (hx:aA1 X.K H x ns) (r:bQ x u) (h:∀ (It:Addr) fp (Pv:Nat->Value->Prop) St s2,Walks X.prog X.w A It fp [It] ns.length Pv St->(∀ i v,Pv i v->∃ n t,ns[i]?=some n/\v=.int n t)->St 0 s2.heap->(∀ b∈fp,b < s2.heap.objs.size)->s.heap.objs.size<=It ->
   (∀ b o,s.heap.get? b=some o->s2.heap.get? b=some o)->(∃ h2,s2={ s with heap:=h2 })->Q (.ref It) s2):wpAny (model X.prog X.w) A (pyIter u) Q E s:=by
 obtain ⟨a,rfl,hx⟩:=hx
 cases r
 rcases hx with hx | hx | ⟨kvs,hx,hk⟩
 ·obtain ⟨its,rv,p,hz⟩:=I.list hx
  have hl:=rv.length
  rw [Qb] at hl
  have ht:=p.isList
  have hlt:a < s.heap.objs.size:=by obtain ⟨o,e,_⟩:=ht; exact Qm e
  have hne:a≠s.heap.objs.size:=Qz hlt
  have W0:=Walks.list (prog:=X.prog) (w:=X.w) (A:=A) hh s.heap.objs.size a hne its.toArray
  rw [show its.toArray.size=ns.length by rw [Ql,hl]] at W0
  refine Tq ht (h s.heap.objs.size [s.heap.objs.size,a] _ _ { s with heap:=s.heap.push { cls:=.type "list_iterator",data:=.fields #[.ref a,.int 0 0] } } W0 (λi v e=>?_) ⟨⟨_,Qg _ rfl,rfl,rfl⟩,ht.push _⟩ (λb hb=>?_) (Qh _) (λb o e=>Qa _ e) ⟨_,rfl⟩)
  ·have e':its[i]?=some v:=by simpa using e
   obtain ⟨hi,_⟩:=Qd.mp e'
   obtain ⟨w',ew,rw'⟩:=rv.get (i:=i) (x:=.int (ns[i]'(by omega))) (by rw [Qe,Qc (show i < ns.length by omega)]; rfl)
   rw [e'] at ew; cases ew
   obtain ⟨t,rfl⟩:=rw'
   exact ⟨_,t,Qc (show i < ns.length by omega),rfl⟩
  ·show b < (s.heap.push _).objs.size
   rw [Jk]
   simp only [Qn,Qs,or_false] at hb
   rcases hb with hb | hb
   ·rw [hb]; exact Xx _
   ·rw [hb]; exact Jx hlt
 ·obtain ⟨its,rv,p,hz⟩:=I.tuple hx
  have hl:=rv.length
  rw [Qb] at hl
  have ht:s.heap.IsTuple a its.toArray:=p
  have hlt:a < s.heap.objs.size:=by obtain ⟨o,e,_⟩:=ht; exact Qm e
  have hne:a≠s.heap.objs.size:=Qz hlt
  have W0:=Walks.tuple (prog:=X.prog) (w:=X.w) (A:=A) hh s.heap.objs.size a hne its.toArray
  rw [show its.toArray.size=ns.length by rw [Ql,hl]] at W0
  refine Il ht (h s.heap.objs.size [s.heap.objs.size,a] _ _ { s with heap:=s.heap.push { cls:=.type "tuple_iterator",data:=.fields #[.ref a,.int 0 0] } } W0 (λi v e=>?_) ⟨⟨_,Qg _ rfl,rfl,rfl⟩,ht.push _⟩ (λb hb=>?_) (Qh _) (λb o e=>Qa _ e) ⟨_,rfl⟩)
  ·have e':its[i]?=some v:=by simpa using e
   obtain ⟨hi,_⟩:=Qd.mp e'
   obtain ⟨w',ew,rw'⟩:=rv.get (i:=i) (x:=.int (ns[i]'(by omega))) (by rw [Qe,Qc (show i < ns.length by omega)]; rfl)
   rw [e'] at ew; cases ew
   obtain ⟨t,rfl⟩:=rw'
   exact ⟨_,t,Qc (show i < ns.length by omega),rfl⟩
  ·show b < (s.heap.push _).objs.size
   rw [Jk]
   simp only [Qn,Qs,or_false] at hb
   rcases hb with hb | hb
   ·rw [hb]; exact Xx _
   ·rw [hb]; exact Jx hlt
 ·obtain ⟨hz,hs,vs,kv,dd⟩:bN X.prog X.w H s.heap a (.dK kvs):=I.hok a _ hx
  obtain ⟨ep,da⟩:=dd.dictAt
  have hl:kvs.length=vs.length:=kv.length
  have hln:vs.length=ns.length:=by
   have:=congrArg Yk hk
   rw [Qb,Qb] at this
   omega
  have hlt:=da.lt_size
  have hne:a≠s.heap.objs.size:=Qz hlt
  have W0:=Walks.dictKeys (prog:=X.prog) (w:=X.w) (A:=A) (knd:=cA X.prog X.w) hh s.heap.objs.size a hne vs ep
  rw [hln] at W0
  refine RaE hs da (h s.heap.objs.size [s.heap.objs.size,a] _ _ { s with heap:=s.heap.push { cls:=.type "dict_keyiterator",data:=.fields #[.ref a,.int 0 0,.int vs.length 0,.int ep 0] } } W0 (λi v e=>?_) ⟨⟨_,Qg _ rfl,rfl,by rw [hln]; rfl⟩,da.push _⟩ (λb hb=>?_) (Qh _) (λb o e=>Qa _ e) ⟨_,rfl⟩)
  ·obtain ⟨k,x,hi,hk2⟩:=e
   have e1:(vs.map (·.1))[i]?=some k:=by rw [Qe,hi]; rfl
   rw [<- kv.keys,hk,Qe] at e1
   cases q:ns[i]? with
   | none=>rw [q] at e1; cases e1
   | some n =>
    rw [q] at e1
    have:k=Sum.inl n:=(Option.some.inj e1).symm
    subst this
    obtain ⟨t,rfl⟩:bQ (.int n) v:=xT hk2
    exact ⟨n,t,rfl,rfl⟩
  ·show b < (s.heap.push _).objs.size
   rw [Jk]
   simp only [Qn,Qs,or_false] at hb
   rcases hb with hb | hb
   ·rw [hb]; exact Xx _
   ·rw [hb]; exact Jx hlt
theorem aA3 {u:V} {uv:Value} {k:Int} (I:Inv X pins σ H s) (hk:aA2 X.K H u n k) (r:bQ u uv):∃ t,jM s.heap uv n (.int k t):=by
 obtain ⟨h0,h1,a,xs,rfl,hx | hx,he⟩:=hk
 ·cases r
  obtain ⟨its,rv,p,hz⟩:=I.tuple hx
  obtain ⟨w',ew,t,rfl⟩:=rv.get he
  exact ⟨t,a,rfl,.inl ⟨its.toArray,p,h0,h1,by simpa using ew⟩⟩
 ·cases r
  obtain ⟨its,rv,p,hz⟩:=I.list hx
  obtain ⟨w',ew,t,rfl⟩:=rv.get he
  exact ⟨t,a,rfl,.inr ⟨its.toArray,p.isList,h0,h1,by simpa using ew⟩⟩
theorem jM.obj {i:Int} {v:Value} (x:jM h u i v):∃ p o,u=.ref p/\h.get? p=some o/\∀ h':Heap,h'.get? p=some o->jM h' u i v:=by
 obtain ⟨p,rfl,⟨its,⟨o,ho,r⟩,q⟩ | ⟨its,⟨o,ho,r⟩,q⟩⟩:=x
 ·exact ⟨p,o,rfl,ho,λh' e=>⟨p,rfl,.inl ⟨its,⟨o,e,r⟩,q⟩⟩⟩
 ·exact ⟨p,o,rfl,ho,λh' e=>⟨p,rfl,.inr ⟨its,⟨o,e,r⟩,q⟩⟩⟩
theorem aB9 {lpos:Pos} {P:Addr} {q:Str} (iv:Nat) (hc:X.calm=true) (hr:Room 1 X.A) (hg:Gl X "min") (hm:X.mg "min" = none) (Z:Lm X.K X.mg X.base c P) (hcode:X.env.code=.ref c) (hq:X.env.qual ++ "<lambda>" = q) (he:PE X e te) (hN:X.N[iv]?=some vn) (hkv:X.env.kindOf vn=some .cell) (hdef:defaultsOf params X.env=([],[]):=by rfl) (hcl:eN X.env scope.names []=(match X.env.cells.lookup vn with | some c=>[(vn,c)] | none=>[]):=by rfl) (hfr:∀ y∈scope.names,y.2=.free->y.1=vn:=by decide +kernel) (hbind:∀ (cl:List (Str×Addr)) (pm cdv ctv:Value) (i:Int) (t:Tok),bindArgs (Ur "<lambda>" q params (.Subscript (.Name vn p1) (.Name xn p2) p3) scope cl pm cdv ctv) ⟨[.int i t],[]⟩=pure [(xn,.int i t)]:=by intro _ _ _ _ _ _; rfl) (hx:scope.names.lookup xn=some .local:=by rfl) (hv:scope.names.lookup vn=some .free:=by rfl) (hco:scope.isCoroutine=false:=by rfl) (hgen:scope.isGenerator=false:=by rfl) (hk:scope.kind=.function:=by rfl) (hcell:∀ x∈scope.names,x.2≠.cell:=by decide +kernel) (d1:(vn==("__debug__" : Str))=false:=by decide) (d2:(vn==("__classdict__" : Str))=false:=by decide) (d3:(xn==("__debug__" : Str))=false:=by decide) (hs1:starEach [e] X.env = [(false,eval e X.env)]:=by rfl) :
  PE X (.Call (.Name "min" p) [e] [⟨some "key",.Lambda params (.Subscript (.Name vn p1) (.Name xn p2) p3) scope lpos,kpos⟩] pos) (aEX X.K P q iv te):=by
 intro pins s σ H Q I h
 refine Uc (iU (u:=.builtin "min") I hg hm (by decide +kernel) ?_)
 have hpa:PA X [e] (tN te aBR):=aA he aC hs1
 refine callWith_kw (thn (hpa pos pins s σ H (λvs H1=>match vs with
   | [x] => ∃ (ns : List Int) (kf : Int -> Int) (u : V), aA1 X.K H1 x ns /\ 0 < ns.length /\ H1 P = some (.tab q) /\ σ[iv]? = some (some u) /\ (∀ n ∈ ns, aA2 X.K H1 u n (kf n)) /\
       ∀ (j:Nat) (m:Int) (H2:Hp),aD H1 H2->ns[j]?=some m->(∀ n∈ns,kf m<=kf n)->(∀ (l:Nat) (n:Int),l < j->ns[l]?=some n->kf m < kf n)->Q (.int m) H2
   | _=>False) I h) λus s1 ⟨vs,H1,I1,r1,q1⟩=>?_) (by rw [hs1]; rfl) (by rw [hs1]; rfl)
 match vs,r1,q1 with
 | [x],r1,q1 =>
  obtain ⟨ns,kf,u,hit,hpos,hT,hu,hkeys,k⟩:=q1
  obtain ⟨xv,rfl,rx⟩:=fX r1
  -- the cell of the name
  obtain ⟨m1,hns1,hl1⟩:=id I1.loc
  obtain ⟨uv,ru,lk⟩:=hl1 iv vn u hN hu (.inr (.inl hkv))
  obtain ⟨cc,hcc,hIc⟩:∃ cc,X.env.cells.lookup vn=some cc/\s1.heap.IsCell cc (some uv):=by
   rcases lk with ⟨z,_⟩ | ⟨_,z⟩
   ·rw [hkv] at z; cases z
   ·exact z
  have hclo:closureFor scope X.env=pure [(vn,cc)]:=by
   rw [aC0 λy hy z=>⟨cc,by rw [hfr y hy z]; exact hcc⟩,hcl,hcc]
  refine kws_cons (aDr I1 Z hcode hT hq hdef hclo λf c' ctv pm s2 H2 I2 sm kk hf hcr=>kws_nil ?_)
  show wpAny (model X.prog X.w) X.A (call (.builtin "min") [xv] [(Str.ofString "key",.ref f)]) _ _ _
  have hit2:aA1 X.K H2 x ns:=by
   obtain ⟨a,rfl,z | z | ⟨kvs,z,y⟩⟩:=hit
   ·exact ⟨a,rfl,.inl (sm.seqL z)⟩
   ·exact ⟨a,rfl,.inr (.inl (sm.seqT z))⟩
   ·exact ⟨a,rfl,.inr (.inr ⟨kvs,sm _ _ z,y⟩)⟩
  have hkeys2:∀ n∈ns,aA2 X.K H2 u n (kf n):=λn hn=>by
   obtain ⟨h0,h1,a,xs,rfl,z | z,y⟩:=hkeys n hn
   ·exact ⟨h0,h1,a,xs,rfl,.inl (sm.seqT z),y⟩
   ·exact ⟨h0,h1,a,xs,rfl,.inr (sm.seqL z),y⟩
  -- what stays through the loop
  obtain ⟨fo,efo,hf⟩:∃ fo:Obj,fo={ cls:=.type "function",data:=.func (Ur "<lambda>" q params (.Subscript (.Name vn p1) (.Name xn p2) p3) scope [(vn,cc)] pm (.ref c') ctv) }/\s2.heap.get? f=some fo:=⟨_,rfl,hf⟩
  obtain ⟨c2,oc,cvs,tq,ec,hoc,hdc,hcv⟩:=hcr
  cases ec
  obtain ⟨ocl,hocl,hdcl⟩:s2.heap.IsCell cc (some uv):=by
   obtain ⟨o,ho,hd⟩:=hIc
   have nP:cc≠P:=λz=>by rw [z] at hcc; have:=I1.freeC _ _ hcc; rw [hT] at this; cases this
   exact ⟨o,kk _ _ nP ho,hd⟩
  obtain ⟨mc,⟨oL,esL,epL,hoL,hdL,rL⟩,hlim⟩:=I2.nolimit
  have n0:ns[0]?=some (ns[0]):=Qc hpos
  obtain ⟨t0,it0⟩:=aA3 I2 (hkeys2 _ (Qi n0)) ru
  obtain ⟨pu,ou,eu,hou,_⟩:=it0.obj
  refine vI (f:=f) (zZ (A:=X.A.in1) (I2.ok.hd hc) I2 hit2 rx λIt fp Pv St s3 W hPv hst hfp hIt hk3 hx9=>?_)
  obtain ⟨h3,e3⟩:=hx9
  subst e3
  refine ⟨It,fp,[It],ns.length,Pv,St,λi=>kf (ns.getD i 0),[(f,fo),(c',oc),(cc,ocl),(cStatics,oL),(pu,ou)],rfl,W,hst,hfp,hpos,?_,?_,?_,λv h' tk hP kk'=>?_⟩
  ·intro i v s4 Q4 E4 hi hPi hL hQ4
   obtain ⟨n,t,hn,rfl⟩:=hPv i v hPi
   have eg:ns.getD i 0=n:=by rw [Qu,hn]; rfl
   obtain ⟨tk,itk⟩:=aA3 I2 (hkeys2 _ (Qi hn)) ru
   have it4:jM s4.heap uv n (.int (kf n) tk):=by
    obtain ⟨p',o',e',ho',hh⟩:=itk.obj
    rw [eu] at e'; cases e'
    rw [hou] at ho'; cases ho'
    exact hh _ (hL (pu,ou) (by simp))
   have rm:X.A.in1.depth < recursionLimit:=(Room.in1 hr).depth
   refine aDp (cl:=[(vn,cc)]) (c:=cc) rm ⟨mc,⟨oL,esL,epL,hL (cStatics,oL) (by simp),hdL,rL⟩,hlim⟩ (by rw [<- efo]; exact hL (f,fo) (by simp)) ⟨c',oc,cvs,tq,rfl,hL (c',oc) (by simp),hdc,hcv⟩ (hbind _ _ _ _ _ _) hx hv hco hgen hk hcell (by simp [List.lookup]) ⟨ocl,hL (cc,ocl) (by simp),hdcl⟩ it4 (λh5 tk5 k5=>?_) d1 d2 d3
   have:=hQ4 h5 tk5 tk k5
   dsimp only at this
   rw [eg] at this
   exact this
  ·intro pr hpr hz
   have hlt:∀ b o,s2.heap.get? b=some o->b≠It:=λb o e=>Qz (Qx (Qm e) hIt)
   simp only [Qo] at hz
   simp only [Qn,Qs,or_false] at hpr
   rcases hpr with rfl | rfl | rfl | rfl | rfl
   ·exact hlt _ _ hf hz
   ·exact hlt _ _ hoc hz
   ·exact hlt _ _ hocl hz
   ·exact hlt _ _ hoL hz
   ·exact hlt _ _ hou hz
  ·intro pr hpr
   simp only [Qn,Qs,or_false] at hpr
   rcases hpr with rfl | rfl | rfl | rfl | rfl
   ·exact hk3 _ _ hf
   ·exact hk3 _ _ hoc
   ·exact hk3 _ _ hocl
   ·exact hk3 _ _ hoL
   ·exact hk3 _ _ hou
  ·obtain ⟨n,t,hn,rfl⟩:=hPv _ v hP
   have I3:Inv X pins σ H2 { s2 with heap:=h',toks:=tk }:=I2.kept λb o e=>kk' b o (by simp; exact Qz (Qx (Qm e) hIt)) (hk3 b o e)
   have b1:=Raz (λi=>kf (ns.getD i 0)) (ns.length - 1)
   have b2:=mM (λi=>kf (ns.getD i 0)) (ns.length - 1)
   have hat:∀ i y,ns[i]?=some y->ns.getD i 0=y:=λi y e=>by rw [Qu,e]; rfl
   refine ⟨.int n,H2,I3,⟨t,rfl⟩,k _ n H2 sm hn (λy hy=>?_) (λl y hl hy=>?_)⟩
   ·obtain ⟨i,hi⟩:=Jb.mp hy
    have:=b1.2 i (by have:=(Qd.mp hi).1; omega)
    have e1:=hat _ _ hn
    have e2:=hat _ _ hi
    show kf n<=kf y
    rw [<- e1,<- e2]; exact this
   ·have:=b2 l hl
    have e1:=hat _ _ hn
    have e2:=hat _ _ hy
    rw [<- e1,<- e2]; exact this
end
def aDs (ts:List (Addr×Str)) (H:Hp):Prop:=(∀ b,H b=none∨(∃ o xs,H b=some (.frz o (.lst xs)))∨∃ q,H b=some (.tab q)/\(b,q)∈ts)/\∀ p∈ts,H p.1=some (.tab p.2)
theorem rF {P:Addr} (C:Vo h c P) (e:h.get? P=some (Rv #[])):isCodeTable h P:=(C.tab e).isCodeTable
theorem aCa {mb:Str->Option Value} {k:Nat} {fa:Addr} {x:Str} {s1x:Shared} {vs:List Value} {ts:List (Addr×Str)} (KX:K.In s1x.heap) (hns:s1x.heap.Ns mainGlobals mg) (hb:s1x.heap.Ns builtinsNs mb) (hbb:∀ x:Str,x ≠ "__name__" -> mb x=bootBuiltins x) (hlim:s1x.heap.NoLimit) (hmod:∃ mm,s1x.heap.Ns sysModules mm) (hg:s1x.gens = #[]) (hbm:∃ bm ob,mg "__builtins__" = some (.ref bm)/\bm≠builtinsNs/\s1x.heap.get? bm=some ob/\ob.cls=.type "module" /\ ob.dict=some builtinsNs/\ob.data=.plain) (hts:∀ p∈ts,s1x.heap.get? p.1=some (Rv #[])/\K.lookup p.1=none/\∃ c,Vo s1x.heap c p.1) (hnd:(ts.map (·.1)).Nodup) (ha:s1x.heap.get? a=some { cls:=.type "list",data:=.seq vs.toArray }) (hi:IntsAre vs ns) (hl:ns.length<=sizeLine) (hr:Room k callerA) (F:∀ base:Heap,K.In base->base.Ns mainGlobals mg->(∀ p∈ts,base.BuiltinsAt mg p.1)->FnOk P w K mg base CX k fa fd [x] sp) (hbind:∀ (s:Shared) (u:Value),BindsTo s fd ⟨[u],[]⟩ [(x,u)]) (hsp:∀ H:Hp,aDs ts H->SqL K H a (ns.map V.int)->sp [.ref a] H (λv H'=>v=.bl true/\∀ p∈ts,H' p.1=some (.tab p.2)) λ_ _ _=>False) (hCX:∀ H e s',CX [] H s1x (λ_ _ _=>False) e s'->False) :
  codeAny (model P w) callerA (.call (.ref fa) ⟨[.ref a],[]⟩) (λr s'=>r=.ok (.ret (.bool true))/\OldK s1x.heap s'.heap/\s'.os=s1x.os/\AllBare s'.gens) s1x:=by
 have rv:=jP hi
 have lenV:=hi.length
 have na:∀ p∈ts,p.1≠a:=λp hp z=>by
  have:=(hts p hp).1
  rw [z,ha] at this; cases this
 -- from an abstract heap in which nothing but the script and the tables may be tracked
 have core:∀ H:Hp,aDs ts H->SqL K H a (ns.map V.int)->HOk P w H s1x.heap->(∀ b,H b≠none->b=a∨∃ q,(b,q)∈ts)->(H a≠none->K.lookup a=none) ->
   codeAny (model P w) callerA (.call (.ref fa) ⟨[.ref a],[]⟩) (λr s'=>r=.ok (.ret (.bool true))/\OldK s1x.heap s'.heap/\s'.os=s1x.os/\AllBare s'.gens) s1x:=by
  intro H hO hS hok hA hK
  have base_of:∀ {b:Addr} {o:Obj},s1x.heap.get? b=some o->H b=none->(sQ s1x.heap H).get? b=some o:=λe n=>aCH e n
  have noA:∀ {b:Addr} {o:Obj} {es:Array DictEntry} {ep:Nat},s1x.heap.get? b=some o->o.data=.dict es ep->H b=none:=λ{b o es ep} e d=>by
   cases q:H b with
   | none=>rfl
   | some u =>
    rcases hA b (by rw [q]; simp) with e' | ⟨q',e'⟩
    ·subst e'
     rw [ha] at e; cases e
     have d':Data.seq vs.toArray _=Data.dict es ep:=d
     cases d'
    ·have:=(hts _ e').1
     have e2:s1x.heap.get? b=some (Rv #[]):=this
     rw [e] at e2; cases e2
     have d':Data.fields _=Data.dict es ep:=d
     cases d'
  have nsK:∀ {b:Addr} {m:Str->Option Value},s1x.heap.Ns b m->(sQ s1x.heap H).Ns b m:=λ{b m} ⟨o,es,ep,e,d,r⟩=>⟨o,es,ep,base_of e (noA e d),d,r⟩
  have hKb:K.In (sQ s1x.heap H):=λb o e=>base_of (KX b o e) (by
   cases q:H b with
   | none=>rfl
   | some u =>
    rcases hA b (by rw [q]; simp) with e' | ⟨q',e'⟩
    ·subst e'
     rw [hK (by rw [q]; simp)] at e; cases e
    ·have:=(hts _ e').2.1
     have e2:K.lookup b=none:=this
     rw [e] at e2; cases e2)
  have hBu:∀ p∈ts,(sQ s1x.heap H).BuiltinsAt mg p.1:=λp hp=>by
   obtain ⟨bm,ob,b1,b2,b3,b4,b5,b6⟩:=hbm
   have hn:H bm=none:=by
    cases q:H bm with
    | none=>rfl
    | some u =>
     rcases hA bm (by rw [q]; simp) with e' | ⟨q',e'⟩
     ·subst e'
      rw [ha] at b3; cases b3
      have d':Data.seq vs.toArray _=Data.plain:=b6
      cases d'
     ·have e2:s1x.heap.get? bm=some (Rv #[]):=(hts _ e').1
      rw [b3] at e2; cases e2
      have d':Data.fields _=Data.plain:=b6
      cases d'
   refine ⟨bm,ob,b1,b2,λz=>?_,λz=>?_,base_of b3 hn,b4,b5,b6⟩
   ·obtain ⟨o,es,ep,e,d,r⟩:=hns
    rw [<- z,b3] at e; cases e
    rw [b6] at d; cases d
   ·have e2:s1x.heap.get? p.1=some (Rv #[]):=(hts _ hp).1
    rw [<- z,b3] at e2; cases e2
    have d':Data.fields _=Data.plain:=b6
    cases d'
  have hM:Mod K mg (sQ s1x.heap H):=⟨hKb,nsK hns,⟨mb,nsK hb,hbb⟩,let ⟨mc,h1,h2⟩:=hlim; ⟨mc,nsK h1,h2⟩,let ⟨mm,h1⟩:=hmod; ⟨mm,nsK h1⟩⟩
  have e0:Env0 P w K mg (sQ s1x.heap H) callerA [] s1x H:=⟨rfl,hM,λb o e=>aEy e,Qar (aBN _ _),trivial,λb hb=>absurd (show b∈([]:List Addr) from hb) (by simp),hok,.of_eq hg⟩
  refine Uo ((F _ hKb (nsK hns) hBu).run callerA [] s1x H ⟨[.ref a],[]⟩ [.ref a] [.ref a] _ _ hr e0 (hbind s1x (.ref a)) (.cons rfl .nil) (hsp H hO hS)) λr s' h=>?_
  cases r with
  | error e=>exact (hCX H e s' h).elim
  | ok fl =>
   cases fl with
   | next=>exact False.elim h
   | brk=>exact False.elim h
   | cont=>exact False.elim h
   | ret u =>
    obtain ⟨v,H',os,bare,un,hok',r',q,qt⟩:=h
    have q':v=.bl true:=q
    subst q'
    obtain rfl:u=Value.bool true:=r'
    have keep:∀ b o,(∀ q,(b,q)∉ts)->s1x.heap.get? b=some o->s'.heap.get? b=some o:=λb o hb e=>by
     cases q:H b with
     | none=>exact un.keep b o e q (by intro z; exact absurd (show b∈([]:List Addr) from z) (by simp)) (by simp)
     | some u =>
      rcases hO.1 b with z | ⟨ob,xs,z⟩ | ⟨q',z,zm⟩
      ·rw [q] at z; cases z
      ·have z2:=un.frzs b ob _ z
       obtain ⟨e1,_⟩:=hok b _ z
       obtain ⟨e2,_⟩:=hok' b _ z2
       rw [e] at e1; cases e1
       exact e2
      ·exact absurd zm (hb q')
    have grown:∀ b o q,(b,q)∈ts->s1x.heap.get? b=some o->isCodeTable s1x.heap b/\o=Rv #[]/\∃ ps,s'.heap.get? b=some (Rv ps):=λb o q hm e=>by
     obtain ⟨h1,h2,c,h3⟩:=hts _ hm
     have h1':s1x.heap.get? b=some (Rv #[]):=h1
     rw [e] at h1'
     obtain ⟨ps,hps,_⟩:bN P w H' s'.heap b (.tab q):=hok' b _ (qt _ hm)
     exact ⟨rF h3 h1,Option.some.inj h1',ps,hps⟩
    refine ⟨rfl,⟨λb o e=>?_,λb o e=>?_⟩,os,bare⟩
    ·by_cases hb:∃ q,(b,q)∈ts
     ·obtain ⟨q,hm⟩:=hb
      obtain ⟨ht,rfl,ps,hP⟩:=grown b o q hm e
      exact .inr (.inl ⟨ht,rfl,#[],ps,rfl,by rw [Array.empty_append]; exact hP⟩)
     ·exact .inl (keep b o (λq z=>hb ⟨q,z⟩) e)
    ·by_cases hb:∃ q,(b,q)∈ts
     ·obtain ⟨q,hm⟩:=hb
      obtain ⟨_,_,ps,hP⟩:=grown b o q hm e
      exact ⟨_,hP⟩
     ·exact ⟨o,keep b o (λq z=>hb ⟨q,z⟩) e⟩
 -- the tables
 have look:∀ {b:Addr} {q:Str},ts.lookup b=some q->(b,q)∈ts:=λ{b q} e=>by
  clear hts hnd hsp core na F
  induction ts with
  | nil=>cases e
  | cons p r ih =>
   rw [Xa] at e
   cases hb:b==p.1 with
   | true=>rw [hb] at e; cases e; rw [eq_of_beq hb]; exact .head _
   | false=>rw [hb] at e; exact .tail _ (ih e)
 have look2:∀ {b:Addr} {q:Str},(b,q)∈ts->ts.lookup b=some q:=λ{b q} e=>by
  clear hts hsp core na look F
  induction ts with
  | nil=>cases e
  | cons p r ih =>
   rw [Xa]
   rw [Qy,Xf] at hnd
   rcases Qn.mp e with rfl | e
   ·simp
   ·have:(b==p.1)=false:=by
     rw [beq_eq_false_iff_ne]
     intro z
     exact hnd.1 (Qw.mpr ⟨(b,q),e,z⟩)
    rw [this]
    exact ih hnd.2 e
 have tabOk:∀ (H:Hp) (b:Addr) (q:Str),(b,q)∈ts->bN P w H s1x.heap b (.tab q):=λH b q hm=>⟨#[],(hts _ hm).1,trivial,λpos cv z=>by simp [codeAmong] at z⟩
 cases hk:K.lookup a with
 | some o =>
  have e:=KX a o hk
  rw [ha] at e
  cases e
  refine core (λb=>(ts.lookup b).map HO.tab) ⟨λb=>?_,λp hp=>by show (ts.lookup p.1).map HO.tab=_; rw [look2 (q:=p.2) hp]; rfl⟩ (.inr ⟨_,vs.toArray,_,hk,rfl,rfl,rfl,by rw [Ql,lenV]; exact hl,by simpa using rv⟩) (λb u z=>?_) (λb z=>?_) λz=>?_
  ·cases q:ts.lookup b with
   | none=>exact .inl (by show (ts.lookup b).map HO.tab=none; rw [q]; rfl)
   | some y=>exact .inr (.inr ⟨y,by show (ts.lookup b).map HO.tab=_; rw [q]; rfl,look q⟩)
  ·have z':(ts.lookup b).map HO.tab=some u:=z
   cases q:ts.lookup b with
   | none=>rw [q] at z'; cases z'
   | some y=>rw [q] at z'; cases z'; exact tabOk _ _ _ (look q)
  ·have z':(ts.lookup b).map HO.tab≠none:=z
   cases q:ts.lookup b with
   | none=>rw [q] at z'; exact absurd rfl z'
   | some y=>exact .inr ⟨y,look q⟩
  ·exfalso
   have z':(ts.lookup a).map HO.tab≠none:=z
   cases q:ts.lookup a with
   | none=>rw [q] at z'; exact absurd rfl z'
   | some y=>exact na _ (look q) rfl
 | none =>
  have noa:ts.lookup a=none:=by
   cases q:ts.lookup a with
   | none=>rfl
   | some y=>exact absurd rfl (na _ (look q))
  refine core (λb=>if b=a then some (.frz { cls:=.type "list",data:=.seq vs.toArray } (.lst (ns.map V.int))) else (ts.lookup b).map HO.tab) ⟨λb=>?_,λp hp=>?_⟩ (.inl (.inr ⟨{ cls:=.type "list",data:=.seq vs.toArray },if_pos rfl⟩)) (λb u z=>?_) (λb z=>?_) λ_=>hk
  ·by_cases hb:b=a
   ·exact .inr (.inl ⟨_,_,if_pos hb⟩)
   ·cases q:ts.lookup b with
    | none=>exact .inl ((if_neg hb).trans (by rw [q]; rfl))
    | some y=>exact .inr (.inr ⟨y,(if_neg hb).trans (by rw [q]; rfl),look q⟩)
  ·exact (if_neg (na p hp)).trans (by rw [look2 (q:=p.2) hp]; rfl)
  ·by_cases hb:b=a
   ·have z':=(if_pos hb).symm.trans z
    cases z'
    subst hb
    exact ⟨ha,by rw [Qb]; exact hl,vs,_,rv,ha⟩
   ·have z':=(if_neg hb).symm.trans z
    cases q:ts.lookup b with
    | none=>rw [q] at z'; cases z'
    | some y=>rw [q] at z'; cases z'; exact tabOk _ _ _ (look q)
  ·by_cases hb:b=a
   ·exact .inl hb
   ·cases q:ts.lookup b with
    | none=>exact absurd ((if_neg hb).trans (by rw [q]; rfl)) z
    | some y=>exact .inr ⟨y,look q⟩
theorem aDt {l:Ic} {n k:Nat} {d:DefRec} {K:Params->Rc} {CX:World->CXT} {sp:World->Sp} {x:Str} {ts:List (Addr×Str)} (hn:l.most=some n) (hn2:n<=sizeLine) (hdf:d.params.defaults = []) (hr:Room k callerA) (hq:importsNone q=true) (hY:∀ (w:World) (h:Heap),YP w h->(K w.params).In h) (hts:∀ (w:World) (h:Heap),YP w h->∀ p∈ts,h.get? p.1=some (Rv #[])/\(K w.params).lookup p.1=none/\∃ c,Vo h c p.1) (hnd:(ts.map (·.1)).Nodup) (F:∀ (w:World) (mg:Str->Option Value) (fa:Addr) (h:Heap),(K w.params).In h->h.Ns mainGlobals mg->mg d.name=some (.ref fa) ->
   ∃ fd:FuncData,(∀ (s:Shared) (u:Value),BindsTo s fd ⟨[u],[]⟩ [(x,u)]) /\
    ∀ base:Heap,(K w.params).In base->base.Ns mainGlobals mg->(∀ p∈ts,base.BuiltinsAt mg p.1)->FnOk l.prog w (K w.params) mg base (CX w) k fa fd [x] (sp w)) (hsp:∀ (w:World) (H:Hp) (a:Addr) (ns:List Int),ns.length<=n->aDs ts H->SqL (K w.params) H a (ns.map V.int)->sp w [.ref a] H (λv H'=>v=.bl true/\∀ p∈ts,H' p.1=some (.tab p.2)) λ_ _ _=>False) (hCX:∀ (w:World) (H:Hp) (s:Shared) (e:Value) (s':Shared),CX w [] H s (λ_ _ _=>False) e s'->False) :
  Ran q loose XP YP l.row.toRowW d [] (λf vs=>Rae f vs):=by
 refine Att.attach_call hn hdf λw s0x s1x mg mb fa o pm cd doc a vs ns G Y ho hd hcd hmg hobj hints hlen hg=>?_
 have KX:=hY w _ Y
 obtain ⟨fd,hb,hF⟩:=F w mg fa _ KX G.T.g hmg
 exact aCa KX G.T.g G.T.b G.T.builtins G.T.nolimit (let ⟨mm,h1,_⟩:=(G.T.seer hq).mods; ⟨mm,h1⟩) hg G.T.bmain (hts w _ Y) hnd hobj hints (Je hlen hn2) hr hF hb (λH hO hS=>hsp w H a ns hlen hO hS) λH e s'=>hCX w H s1x e s'
theorem Fun.okC {x:Str} {k:Nat} (F:Fun K x qual st f fd) (hc:fd.code=.ref c) (S:FnScope N ps (aG st)) (len:∀ vs H Q E,sp vs H Q E->vs.length=ps.length) (hbody:∀ (A:Around) (outer:List Env) (s:Shared) (H:Hp) (vs:List V) (Q:VK) (E:XK),Room k (A.deeper (envOfC qual (aG st) s.heap.objs.size f (.ref c)))->sp vs H Q E ->
   ∃ t,PSs (zR CX0 P w K mg base N qual (aG st) f (.ref c) A outer s H E).nox (eK st) t/\t { nx:=λ_ H'=>Q .non H',rt:=Q } (start N vs) H):FnOk P w K mg base CX0 (k+1) f fd ps sp:=by
 obtain ⟨oc,od,kV,doc,pm,an,cdv,ct,osl,rfl,lk,hcd⟩:=F.ex
 have e:cdv=.ref c:=hc
 subst e
 refine aFG lk hcd S len λA outer s H vs Q E hr hsp=>?_
 obtain ⟨t,h,q⟩:=hbody A outer s H vs Q E hr hsp
 exact ⟨t,h.nox,q⟩
abbrev gE (h:Heap) (z TI TO:Addr) (f0:Value) (f1:Bool):Prop :=
 h.get? z=some { cls:=.type "zip",dict:=none,data:=.fields #[f0,.bool f1,.bool false,.ref TI,.ref TO],slots:=#[] }
def F0 (f:Value):Prop:=f=.none∨∃ a t,f=.int a t
theorem xU {Q:Option Obj->Shared->Prop} (h:Q (s.heap.get? a) s):wpAny M A (loadIfAlive a) Q E s:=λΓ p _=>by
 show Sem.wp M Γ (.loadIfAlive a .pure) _ _ p s
 rw [Sem.wp_loadIfAlive]
 exact (Sem.wp_pure ..).mpr h
section
variable {z TI TO:Addr} {n1:Nat}
theorem aDu {Q:Bool->Shared->Prop} (hz:gE s.heap z TI TO f0 f1) (hf:F0 f0) (h1:Q true s) (h2:∀ h' b,gE h' z TI TO f0 b->Heap.SameBut z s.heap h'->Q false { s with heap:=h' }) :
  wpAny (model prog w) A (Builtin.SmallTypes.ownedTupleIsFree (.ref z)) Q E s:=by
 unfold Builtin.SmallTypes.ownedTupleIsFree
 rcases hf with rfl | ⟨a,t,rfl⟩
 ·exact Ra (Ri hz rfl (x:=.none) rfl (Rb h1))
 ·refine Ra (Ri hz rfl (x:=.int a t) rfl ?_)
  show wpAny (model prog w) A (loadIfAlive a.toNat >>= _) Q E s
  refine Ra (xU ?_)
  cases hq:s.heap.get? a.toNat with
  | none=>exact Rb h1
  | some o =>
   show wpAny (model prog w) A (field (.ref z) 1 >>= _) Q E s
   refine Ra (Ri hz rfl (x:=.bool f1) rfl ?_)
   cases f1 with
   | true=>exact Rb (h2 s.heap true hz (Heap.SameBut.refl _ _))
   | false =>
    show wpAny (model prog w) A (setField (.ref z) 1 (.bool true) >>= _) Q E s
    refine Ra (Rg hz (by simp) λg hg b=>Rb (h2 g true hg b))
theorem aDv {k:Nat} {a b:Value} (D:ZipApart z TI TO i1 i2 l1 l2) (S1:Sub prog w i1 l1 n1 P1 st1) (S2:Sub prog w i2 l2 n2 P2 st2) (hz:gE s.heap z TI TO f0 f1) (hf:F0 f0) (hTI:IsPair s.heap TI (.ref i1) (.ref i2)) (hTO:IsPair s.heap TO a b) (h1:st1 k s.heap) (h2:st2 k s.heap) (k1:k < n1) (k2:k < n2) (hQ:∀ h' x y f0' f1',P1 k x->P2 k y->F0 f0'->gE h' z TI TO f0' f1'->(∃ a b,IsPair h' TO a b)->st1 (k+1) h'->st2 (k+1) h'->IsPair h' s.heap.objs.size x y->h'.objs.size=s.heap.objs.size+1 ->
   (∀ c o,c≠z->c≠TO->c≠i1->c≠i2->s.heap.get? c=some o->h'.get? c=some o)->Q (.ref s.heap.objs.size) { s with heap:=h' }) :
  wpAny (model prog w) A (Builtin.«zip.__next__» ⟨[.ref z],[]⟩) (λfin s'=>∃ v,fin=.done (.ret v)/\Q v s') E s:=by
 refine Ra (m:=field (.ref z) 2) (Ri hz rfl (x:=.bool false) rfl ?_)
 refine Ra (m:=field (.ref z) 3) (Ri hz rfl (x:=.ref TI) rfl ?_)
 refine Ra (Ro hTI rfl ?_)
 refine Ra (m:=Builtin.SmallTypes.ownedTupleIsFree (.ref z)) (aDu hz hf ?_ λh0 fb hz0 b0=>?_)
 ·simp only [if_true]
  refine Ra (Tu ?_)
  refine Ra (Ri hz rfl (x:=.ref TO) rfl ?_)
  refine Ra (Rg hz (by simp) λg1 hz1 b1=>?_)
  have hz1':gE g1 z TI TO .ellipsis f1:=hz1
  refine Ra ?_
  simp only [Yr,Yx,Zb,Zi]
  have s1:st1 k g1:=S1.keep _ _ _ h1 λc hc o e=>b1.extBut c o (by rcases hc with r | r <;> rw [r]; exact D.i1z; exact D.l1z) e
  refine Ra (Ra (Uh ?_))
  refine Ra (m:=Builtin.SmallTypes.nextOf (.ref i1)) (S1.item _ k _ _ _ k1 s1 λx g2 px t1 b2=>Rb ?_)
  have o2:IsPair g2 TO a b:=b2.extBut _ _ D.TOi1 (b1.extBut _ _ D.TOz hTO)
  refine Ra (Ro o2 rfl ?_)
  refine Ra (Tr o2 λg3 o3 b3=>?_)
  have o3':IsPair g3 TO x b:=o3
  refine Ra (Th (Rb ?_))
  have s2:st2 k g3:=S2.keep _ _ _ h2 λc hc o e=>by
   rcases hc with r | r
   ·rw [r] at e ⊢; exact b3.extBut _ _ D.TOi2.symm (b2.extBut _ _ D.i12.symm (b1.extBut _ _ D.i2z e))
   ·rw [r] at e ⊢; exact b3.extBut _ _ D.l2TO (b2.extBut _ _ D.l2i1 (b1.extBut _ _ D.l2z e))
  refine Ra (Ra (Uh ?_))
  refine Ra (m:=Builtin.SmallTypes.nextOf (.ref i2)) (S2.item _ k _ _ _ k2 s2 λy g4 py t2 b4=>Rb ?_)
  have o4:IsPair g4 TO x b:=b4.extBut _ _ D.TOi2 o3'
  refine Ra (Ro o4 rfl ?_)
  refine Ra (Tr o4 λg5 o5 b5=>?_)
  have o5':IsPair g5 TO x y:=o5
  refine Ra (Th (Rb (Rb ?_)))
  refine Ra (Ro o5' rfl ?_)
  refine Ra (Vi ?_)
  have sz:g5.objs.size=s.heap.objs.size:=by rw [b5.1,b4.1,b3.1,b2.1,b1.1]
  have z5:gE g5 z TI TO .ellipsis f1:=b5.extBut _ _ D.TOz.symm (b4.extBut _ _ D.i2z.symm (b3.extBut _ _ D.TOz.symm (b2.extBut _ _ D.i1z.symm hz1')))
  have kp5:∀ c o,c≠z->c≠TO->c≠i1->c≠i2->s.heap.get? c=some o->g5.get? c=some o:=λc o c1 c2 c3 c4 e =>
   b5.extBut _ _ c2 (b4.extBut _ _ c4 (b3.extBut _ _ c2 (b2.extBut _ _ c3 (b1.extBut _ _ c1 e))))
  have t1':st1 (k+1) g5:=S1.keep _ _ _ t1 λc hc o e=>by
   rcases hc with r | r
   ·rw [r] at e ⊢; exact b5.extBut _ _ D.TOi1.symm (b4.extBut _ _ D.i12 (b3.extBut _ _ D.TOi1.symm e))
   ·rw [r] at e ⊢; exact b5.extBut _ _ D.l1TO (b4.extBut _ _ D.l1i2 (b3.extBut _ _ D.l1TO e))
  have t2':st2 (k+1) g5:=S2.keep _ _ _ t2 λc hc o e=>by
   rcases hc with r | r
   ·rw [r] at e ⊢; exact b5.extBut _ _ D.TOi2.symm e
   ·rw [r] at e ⊢; exact b5.extBut _ _ D.l2TO e
  have zlt:g5.objs.size≠z:=Xm (Qm z5)
  refine Ra (m:=Builtin.SmallTypes.ownedTupleHandOut (.ref z) (.ref g5.objs.size)) ?_
  unfold Builtin.SmallTypes.ownedTupleHandOut
  have z6:gE (g5.push { cls:=.type "tuple",data:=.seq #[x,y] }) z TI TO .ellipsis f1:=Qa _ z5
  refine Ra (Rg z6 (by simp) λg7 z7 b7=>?_)
  have z7':gE g7 z TI TO (rawInt g5.objs.size) f1:=z7
  refine Rg z7' (by simp) λg8 z8 b8=>?_
  have z8':gE g8 z TI TO (rawInt g5.objs.size) false:=z8
  have up:∀ c o,c≠z->g5.get? c=some o->g8.get? c=some o:=λc o c1 e=>b8.extBut _ _ c1 (b7.extBut _ _ c1 (Qa _ e))
  have T8:IsPair g8 g5.objs.size x y:=b8.extBut _ _ zlt (b7.extBut _ _ zlt (Qg _ rfl))
  have sz8:g8.objs.size=s.heap.objs.size+1:=by rw [b8.1,b7.1,Jk,sz]
  rw [sz] at z8' T8
  refine Rb ⟨_,rfl,?_⟩
  show Q (.ref g5.objs.size) _
  rw [sz]
  refine hQ g8 x y _ _ px py (.inr ⟨_,_,rfl⟩) z8' ⟨_,_,up _ _ D.TOz o5'⟩ (S1.keep _ _ _ t1' λc hc o e=>up c o (by rcases hc with r | r <;> rw [r]; exact D.i1z; exact D.l1z) e) (S2.keep _ _ _ t2' λc hc o e=>up c o (by rcases hc with r | r <;> rw [r]; exact D.i2z; exact D.l2z) e) T8 sz8 λc o c1 c2 c3 c4 e=>up c o c1 (kp5 c o c1 c2 c3 c4 e)
 ·simp only [Jg,if_false]
  have s1:st1 k h0:=S1.keep _ _ _ h1 λc hc o e=>b0.extBut c o (by rcases hc with r | r <;> rw [r]; exact D.i1z; exact D.l1z) e
  rw [<- Array.forIn_toList]
  simp only [Zb,Zi]
  refine Ra (Ra (Ra (Rl ?_)))
  refine Ra (m:=Builtin.SmallTypes.nextOf (.ref i1)) (S1.item _ k _ _ _ k1 s1 λx g2 px t1 b2=>Rb ?_)
  refine Rb ?_
  have s2:st2 k g2:=S2.keep _ _ _ h2 λc hc o e=>by
   rcases hc with r | r
   ·rw [r] at e ⊢; exact b2.extBut _ _ D.i12.symm (b0.extBut _ _ D.i2z e)
   ·rw [r] at e ⊢; exact b2.extBut _ _ D.l2i1 (b0.extBut _ _ D.l2z e)
  refine Ra (Ra (Rl ?_))
  refine Ra (m:=Builtin.SmallTypes.nextOf (.ref i2)) (S2.item _ k _ _ _ k2 s2 λy g4 py t2 b4=>Rb ?_)
  refine Rb (Rb ?_)
  refine Ra (Vi ?_ (by show 2<=sizeLine; rw [Rf]; decide))
  have sz:g4.objs.size=s.heap.objs.size:=by rw [b4.1,b2.1,b0.1]
  have z4:gE g4 z TI TO f0 fb:=b4.extBut _ _ D.i2z.symm (b2.extBut _ _ D.i1z.symm hz0)
  have kp4:∀ c o,c≠z->c≠i1->c≠i2->s.heap.get? c=some o->g4.get? c=some o:=λc o c1 c3 c4 e=>b4.extBut _ _ c4 (b2.extBut _ _ c3 (b0.extBut _ _ c1 e))
  have t1':st1 (k+1) g4:=S1.keep _ _ _ t1 λc hc o e=>by
   rcases hc with r | r
   ·rw [r] at e ⊢; exact b4.extBut _ _ D.i12 e
   ·rw [r] at e ⊢; exact b4.extBut _ _ D.l1i2 e
  refine Rb ⟨_,rfl,?_⟩
  show Q (.ref g4.objs.size) _
  have T8:IsPair (g4.push { cls:=.type "tuple",data:=.seq #[x,y] }) g4.objs.size x y:=Qg _ rfl
  rw [sz] at T8 ⊢
  refine hQ _ x y _ _ px py hf (Qa _ z4) ⟨_,_,Qa _ (kp4 _ _ D.TOz D.TOi1 D.TOi2 hTO)⟩ (S1.keep _ _ _ t1' λc hc o e=>Qa _ e) (S2.keep _ _ _ t2 λc hc o e=>Qa _ e) T8 (by rw [Jk,sz]) λc o c1 c2 c3 c4 e=>Qa _ (kp4 c o c1 c3 c4 e)
theorem aEY {k:Nat} {a b:Value} {Q:Fin->Shared->Prop} (hh:A.handled=none) (D:ZipApart z TI TO i1 i2 l1 l2) (S1:Sub prog w i1 l1 n1 P1 st1) (S2:Sub prog w i2 l2 n2 P2 st2) (hz:gE s.heap z TI TO f0 f1) (hf:F0 f0) (hTI:IsPair s.heap TI (.ref i1) (.ref i2)) (hTO:IsPair s.heap TO a b) (h1:st1 k s.heap) (h2:st2 k s.heap) (hend:k=n1/\k<=n2∨k=n2/\k < n1) (hE:∀ h' e,(∀ c o,c≠z->c≠TO->c≠i1->c≠i2->s.heap.get? c=some o->h'.get? c=some o)->(∃ o,h'.get? e=some o/\o.cls=.type "StopIteration")->E (.ref e) { s with heap:=h' }) :
  wpAny (model prog w) A (Builtin.«zip.__next__» ⟨[.ref z],[]⟩) Q E s:=by
 refine Ra (m:=field (.ref z) 2) (Ri hz rfl (x:=.bool false) rfl ?_)
 refine Ra (m:=field (.ref z) 3) (Ri hz rfl (x:=.ref TI) rfl ?_)
 refine Ra (Ro hTI rfl ?_)
 refine Ra (m:=Builtin.SmallTypes.ownedTupleIsFree (.ref z)) (aDu hz hf ?_ λh0 fb hz0 b0=>?_)
 ·simp only [if_true]
  refine Ra (Tu ?_)
  refine Ra (Ri hz rfl (x:=.ref TO) rfl ?_)
  refine Ra (Rg hz (by simp) λg1 hz1 b1=>?_)
  have hz1':gE g1 z TI TO .ellipsis f1:=hz1
  refine Ra ?_
  simp only [Yr,Yx,Zb,Zi]
  have s1:st1 k g1:=S1.keep _ _ _ h1 λc hc o e=>b1.extBut c o (by rcases hc with r | r <;> rw [r]; exact D.i1z; exact D.l1z) e
  refine Ra (Ra (Uh ?_))
  have fin:∀ (g:Heap) (e:Addr) (g0:Heap),(∃ o,g.get? e=some o/\o.cls=.type "StopIteration")->gE g z TI TO .ellipsis f1->(∀ c o,c≠z->c≠TO->c≠i1->c≠i2->s.heap.get? c=some o->g.get? c=some o) ->
    wpAny (model prog w) A (setField (.ref z) 0 .none) (λ_ s'=>E (.ref e) s') E { s with heap:=g }:=λg e g0 ⟨oe,hoe,hce⟩ hzz kp=>by
   have hez:e≠z:=λq=>by rw [q,hzz] at hoe; cases hoe; simp at hce
   exact Rg hzz (by simp) λg' _ b'=>hE g' e (λc o c1 c2 c3 c4 q=>b'.extBut _ _ c1 (kp c o c1 c2 c3 c4 q)) ⟨oe,b'.extBut _ _ hez hoe,hce⟩
  rcases hend with ⟨e1,_⟩ | ⟨e2,k1⟩
  ·rw [e1] at s1
   refine Ra (m:=Builtin.SmallTypes.nextOf (.ref i1)) (S1.done _ _ _ _ hh s1 λg2 e b2 he=>?_)
   exact fin g2 e g1 he (b2 _ _ D.i1z.symm hz1') λc o c1 _ c3 _ q=>b2 _ _ c3 (b1.extBut _ _ c1 q)
  ·refine Ra (m:=Builtin.SmallTypes.nextOf (.ref i1)) (S1.item _ k _ _ _ k1 s1 λx g2 px t1 b2=>Rb ?_)
   have o2:IsPair g2 TO a b:=b2.extBut _ _ D.TOi1 (b1.extBut _ _ D.TOz hTO)
   refine Ra (Ro o2 rfl ?_)
   refine Ra (Tr o2 λg3 o3 b3=>?_)
   refine Ra (Th (Rb ?_))
   have s2:st2 n2 g3:=by
    rw [<- e2]
    exact S2.keep _ _ _ h2 λc hc o e=>by
     rcases hc with r | r
     ·rw [r] at e ⊢; exact b3.extBut _ _ D.TOi2.symm (b2.extBut _ _ D.i12.symm (b1.extBut _ _ D.i2z e))
     ·rw [r] at e ⊢; exact b3.extBut _ _ D.l2TO (b2.extBut _ _ D.l2i1 (b1.extBut _ _ D.l2z e))
   refine Ra (Ra (Uh ?_))
   refine Ra (m:=Builtin.SmallTypes.nextOf (.ref i2)) (S2.done _ _ _ _ hh s2 λg4 e b4 he=>?_)
   exact fin g4 e g3 he (b4 _ _ D.i2z.symm (b3.extBut _ _ D.TOz.symm (b2.extBut _ _ D.i1z.symm hz1'))) λc o c1 c2 c3 c4 q=>b4 _ _ c4 (b3.extBut _ _ c2 (b2.extBut _ _ c3 (b1.extBut _ _ c1 q)))
 ·simp only [Jg,if_false]
  have s1:st1 k h0:=S1.keep _ _ _ h1 λc hc o e=>b0.extBut c o (by rcases hc with r | r <;> rw [r]; exact D.i1z; exact D.l1z) e
  rw [<- Array.forIn_toList]
  simp only [Zb,Zi]
  refine Ra (Ra (Ra (Rl ?_)))
  rcases hend with ⟨e1,_⟩ | ⟨e2,k1⟩
  ·rw [e1] at s1
   refine Ra (m:=Builtin.SmallTypes.nextOf (.ref i1)) (S1.done _ _ _ _ hh s1 λg2 e b2 he=>?_)
   exact hE g2 e (λc o c1 _ c3 _ q=>b2 _ _ c3 (b0.extBut _ _ c1 q)) he
  ·refine Ra (m:=Builtin.SmallTypes.nextOf (.ref i1)) (S1.item _ k _ _ _ k1 s1 λx g2 px t1 b2=>Rb ?_)
   refine Rb ?_
   have s2:st2 n2 g2:=by
    rw [<- e2]
    exact S2.keep _ _ _ h2 λc hc o e=>by
     rcases hc with r | r
     ·rw [r] at e ⊢; exact b2.extBut _ _ D.i12.symm (b0.extBut _ _ D.i2z e)
     ·rw [r] at e ⊢; exact b2.extBut _ _ D.l2i1 (b0.extBut _ _ D.l2z e)
   refine Ra (Ra (Rl ?_))
   refine Ra (m:=Builtin.SmallTypes.nextOf (.ref i2)) (S2.done _ _ _ _ hh s2 λg4 e b4 he=>?_)
   exact hE g4 e (λc o c1 c2 c3 c4 q=>b4 _ _ c4 (b2.extBut _ _ c3 (b0.extBut _ _ c1 q))) he
structure ZipSt (h:Heap) (z TI TO i1 i2:Addr):Prop where
 hz:∃ f0 f1,F0 f0/\gE h z TI TO f0 f1
 ti:IsPair h TI (.ref i1) (.ref i2)
 to:∃ a b,IsPair h TO a b
theorem xV {e:Addr} {i:Nat} {old:Value} (D:ZipApart z TI TO i1 i2 l1 l2) (S1:Sub prog w i1 l1 n1 P1 st1) (S2:Sub prog w i2 l2 n2 P2 st2) (he:IsEnum s.heap e z i old) (Z:ZipSt s.heap z TI TO i1 i2) (h1:st1 i s.heap) (h2:st2 i s.heap) (k1:i < n1) (k2:i < n2) (ne:e≠z/\e≠TI/\e≠TO/\e≠i1/\e≠i2/\e≠l1/\e≠l2) (hQ:∀ h' x y tk,P1 i x->P2 i y->IsEnumOut h' e z ((i:Int)+1) (.ref s.heap.objs.size) (s.heap.objs.size+1)->ZipSt h' z TI TO i1 i2->st1 (i+1) h'->st2 (i+1) h'->IsPair h' s.heap.objs.size x y ->
   h'.get? (s.heap.objs.size+1)=some { cls:=.type "tuple",data:=.seq #[.int i tk,.ref s.heap.objs.size] } ->
   (∀ c o,c≠e->c≠z->c≠TO->c≠i1->c≠i2->s.heap.get? c=some o->h'.get? c=some o)->Q (.ref (s.heap.objs.size+1)) { s with heap:=h',toks:=s.toks+1 }) :
  wpAny (model prog w) A (Builtin.«enumerate.__next__» ⟨[.ref e],[]⟩) (λfin s'=>∃ v,fin=.done (.ret v)/\Q v s') E s:=by
 obtain ⟨⟨f0,f1,hf,hz⟩,hTI,⟨a,b,hTO⟩⟩:=Z
 obtain ⟨ne1,ne2,ne3,ne4,ne5,ne6,ne7⟩:=ne
 have hTz:s.TypeIs (.ref z) "zip" := ⟨_,hz,rfl⟩
 refine Ra (m:=field (.ref e) 2) (Ri he rfl (x:=.ref z) rfl ?_)
 refine Ra (m:=Builtin.SmallTypes.nextOf (.ref z)) ?_
 unfold Builtin.SmallTypes.nextOf
 refine Ra (Rh (name:=Str.ofString "__next__") hTz Ru (Rj Ru hTz Uq
  (aDv D S1 S2 hz hf hTI hTO h1 h2 k1 k2 λg1 x y f0' f1' px py hf' hz' hTO' t1 t2 hp hsz kp=>?_) (Um _)))
 refine Rb ?_
 have e1:IsEnum g1 e z i old:=kp _ _ ne1 ne3 ne4 ne5 he
 refine Ra (m:=field (.ref e) 3) (Ri e1 rfl (x:=rawInt i) rfl ?_)
 refine Ra (m:=field (.ref e) 4) (Ri e1 rfl (x:=.none) rfl ?_)
 refine Ra (m:=mkInt i) (wpAny_mkInt ?_)
 refine Ra (m:=setField (.ref e) 3 (rawInt ((i:Int)+1))) (Rg e1 (by simp) λg2 e2 b2=>?_)
 have e2':IsEnum g2 e z ((i:Int)+1) old:=e2
 refine Ra (m:=setField (.ref e) 4 .none) (Rg e2' (by simp) λg3 e3 b3=>?_)
 have e3':IsEnum g3 e z ((i:Int)+1) old:=e3
 refine Ra (m:=newTuple [.int i s.toks,.ref s.heap.objs.size]) (Vi ?_)
 have sz:g3.objs.size=s.heap.objs.size+1:=by rw [b3.1,b2.1,hsz]
 have e4:IsEnum (g3.push { cls:=.type "tuple",data:=.seq #[.int i s.toks,.ref s.heap.objs.size] }) e z ((i:Int)+1) old:=Qa _ e3'
 have T4:(g3.push { cls:=.type "tuple",data:=.seq #[.int i s.toks,.ref s.heap.objs.size] }).get? (s.heap.objs.size+1)=some { cls:=.type "tuple",data:=.seq #[.int i s.toks,.ref s.heap.objs.size] }:=by rw [<- sz]; exact Qg _ rfl
 have up4:∀ c o,c≠e->g1.get? c=some o->(g3.push { cls:=.type "tuple",data:=.seq #[.int i s.toks,.ref s.heap.objs.size] }).get? c=some o:=λc o c1 q=>Qa _ (b3.extBut _ _ c1 (b2.extBut _ _ c1 q))
 have elt:s.heap.objs.size+1≠e:=Xm (Jx (Qm he))
 have elt0:s.heap.objs.size≠e:=Xm (Qm he)
 rw [sz]
 generalize g3.push { cls:=.type "tuple",data:=.seq #[.int i s.toks,.ref s.heap.objs.size] }=g4 at e4 T4 up4 ⊢
 refine Ra (m:=Builtin.SmallTypes.ownedTupleIsFree (.ref e)) ?_
 unfold Builtin.SmallTypes.ownedTupleIsFree
 refine Ra (Ri e4 rfl (x:=.none) rfl (Rb ?_))
 simp only [if_true]
 refine Ra (Tu ?_)
 refine Ra (Ri e4 rfl (x:=old) rfl ?_)
 refine Ra (Rg e4 (by simp) λg5 e5 b5=>?_)
 have e5':IsEnum g5 e z ((i:Int)+1) (.ref s.heap.objs.size):=e5
 refine Ra (m:=Builtin.SmallTypes.ownedTupleHandOut (.ref e) (.ref (s.heap.objs.size+1))) ?_
 unfold Builtin.SmallTypes.ownedTupleHandOut
 refine Ra (Rg e5' (by simp) λg6 e6 b6=>?_)
 have e6':IsEnumOut g6 e z ((i:Int)+1) (.ref s.heap.objs.size) (s.heap.objs.size+1):=e6
 refine Rg e6' (by simp) λg7 e7 b7=>?_
 have e7':IsEnumOut g7 e z ((i:Int)+1) (.ref s.heap.objs.size) (s.heap.objs.size+1):=e7
 have up:∀ c o,c≠e->g4.get? c=some o->g7.get? c=some o:=λc o c1 q=>b7.extBut _ _ c1 (b6.extBut _ _ c1 (b5.extBut _ _ c1 q))
 have all:∀ c o,c≠e->g1.get? c=some o->g7.get? c=some o:=λc o c1 q=>up c o c1 (up4 c o c1 q)
 obtain ⟨a',b',hTO'⟩:=hTO'
 refine Ra (Th (Rb ⟨_,rfl,hQ g7 x y s.toks px py e7' ⟨⟨_,_,hf',all _ _ ne1.symm hz'⟩,all _ _ ne2.symm (kp _ _ D.TIz D.TITO D.TIi1 D.TIi2 hTI),⟨_,_,all _ _ ne3.symm hTO'⟩⟩ (S1.keep _ _ _ t1 λc hc o q=>all c o ?_ q) (S2.keep _ _ _ t2 λc hc o q=>all c o ?_ q) (all _ _ elt0 hp) (up _ _ elt T4) λc o c0 c1 c2 c3 c4 q=>all c o c0 (kp c o c1 c2 c3 c4 q)⟩))
 ·rcases hc with r | r <;> rw [r]
  ·exact ne4.symm
  ·exact ne6.symm
 ·rcases hc with r | r <;> rw [r]
  ·exact ne5.symm
  ·exact ne7.symm
theorem aAa {e:Addr} {i:Nat} {old:Value} {Q:Fin->Shared->Prop} (hh:A.handled=none) (D:ZipApart z TI TO i1 i2 l1 l2) (S1:Sub prog w i1 l1 n1 P1 st1) (S2:Sub prog w i2 l2 n2 P2 st2) (he:IsEnum s.heap e z i old) (Z:ZipSt s.heap z TI TO i1 i2)
  (h1:st1 i s.heap) (h2:st2 i s.heap) (hend:i=n1/\i<=n2∨i=n2/\i < n1)
  (hE:∀ h' x,(∀ c o,c≠z->c≠TO->c≠i1->c≠i2->s.heap.get? c=some o->h'.get? c=some o)->(∃ o,h'.get? x=some o/\o.cls=.type "StopIteration")->E (.ref x) { s with heap:=h' }) :
  wpAny (model prog w) A (Builtin.«enumerate.__next__» ⟨[.ref e],[]⟩) Q E s:=by
 obtain ⟨⟨f0,f1,hf,hz⟩,hTI,⟨a,b,hTO⟩⟩:=Z
 have hTz:s.TypeIs (.ref z) "zip" := ⟨_,hz,rfl⟩
 refine Ra (m:=field (.ref e) 2) (Ri he rfl (x:=.ref z) rfl ?_)
 refine Ra (m:=Builtin.SmallTypes.nextOf (.ref z)) ?_
 unfold Builtin.SmallTypes.nextOf
 exact Ra (Rh (name:=Str.ofString "__next__") hTz Ru (Rj Ru hTz Uq
  (aEY hh D S1 S2 hz hf hTI hTO h1 h2 hend λh' x kp hx=>hE h' x kp hx) (Um _)))
end
def aDw (K:Rc) (k1 k2:Sk) (a b:Addr):It :=
 ⟨λi H => ∃ xs ys x y, SqK k1 K H a xs /\ SqK k2 K H b ys /\ xs[i]? = some x /\ ys[i]? = some y,
  λi H v H'=>∃ p q,H p=none/\H q=none/\q≠p/\v=.ref q/\∀ xs ys,SqK k1 K H a xs->SqK k2 K H b ys->∃ x y,xs[i]?=some x/\ys[i]?=some y/\H'=upd (upd H p (.tup [x,y])) q (.tup [.int (i:Nat),.ref p]),
  λi H=>∃ xs ys,SqK k1 K H a xs/\SqK k2 K H b ys/\min xs.length ys.length=i⟩
theorem vJ {x1} (k1 k2:Sk) (a b e z TI TO i1 i2:Addr) (D:∀ l1 l2:Addr,(∀ c∈[e,z,TI,TO,i1,i2],l1≠c)->(∀ c∈[e,z,TI,TO,i1,i2],l2≠c)->ZipApart z TI TO i1 i2 l1 l2) (ne:e≠z/\e≠TI/\e≠TO/\e≠i1/\e≠i2) :
  Turn P w K (.Tuple es x1 pos) (aDw K k1 k2 a b) [e,z,TI,TO,i1,i2] e (λi h=>(∃ old,IsEnum h e z i old)/\ZipSt h z TI TO i1 i2/\ItK k1 h i1 a i/\ItK k2 h i2 b i) where
 mem:=by simp
 obj:=λi h st c hc=>by
  obtain ⟨⟨old,he⟩,⟨⟨f0,f1,hf,hz⟩,hTI,⟨x,y,hTO⟩⟩,h1,h2⟩:=st
  simp only [Qn,Qs,or_false] at hc
  rcases hc with rfl | rfl | rfl | rfl | rfl | rfl
  ·exact ⟨_,he,λv q=>by cases q⟩
  ·exact ⟨_,hz,λv q=>by cases q⟩
  ·exact ⟨_,hTI,λv q=>by cases q⟩
  ·exact ⟨_,hTO,λv q=>by cases q⟩
  ·exact h1.obj
  ·exact h2.obj
 keep:=λi h h' st k=>by
  obtain ⟨⟨old,he⟩,⟨⟨f0,f1,hf,hz⟩,hTI,⟨x,y,hTO⟩⟩,h1,h2⟩:=st
  exact ⟨⟨old,k e (by simp) _ he⟩,⟨⟨f0,f1,hf,k z (by simp) _ hz⟩,k TI (by simp) _ hTI,⟨x,y,k TO (by simp) _ hTO⟩⟩,h1.at λo e=>k i1 (by simp) o e,h2.at λo e=>k i2 (by simp) o e⟩
 item:=by
  intro X hP hw hK hc i pins s σ H E I hf st hg
  subst hP hw hK
  obtain ⟨⟨old,he⟩,Z,h1,h2⟩:=st
  obtain ⟨xs,ys,x,y,ha,hb,hx,hy⟩:=hg
  obtain ⟨its,rv,pa⟩:=I.seqK ha
  obtain ⟨jts,rw',pb⟩:=I.seqK hb
  obtain ⟨u,hu,ru⟩:=rv.get hx
  obtain ⟨v,hv,rv2⟩:=rw'.get hy
  have na:∀ c∈[e,z,TI,TO,i1,i2],a≠c:=λc hc'=>I.seq_ne ha (hf c hc')
  have nb:∀ c∈[e,z,TI,TO,i1,i2],b≠c:=λc hc'=>I.seq_ne hb (hf c hc')
  have DD:=D a b na nb
  have hT:s.TypeIs (.ref e) "enumerate" := ⟨_,he,rfl⟩
  have hi1:i < its.toArray.size:=by rw [Ql]; exact (Qd.mp hu).1
  have hi2:i < jts.toArray.size:=by rw [Ql]; exact (Qd.mp hv).1
  unfold pyNext
  refine Ra (Rx (Rh (name:=Str.ofString "__next__") hT Rq (Rj Rq hT Tw
   (xV DD (sV k1 X.prog X.w i1 a its.toArray (na i1 (by simp))) (sV k2 X.prog X.w i2 b jts.toArray (nb i2 (by simp))) he Z ⟨h1,pa⟩ ⟨h2,pb⟩ hi1 hi2
    ⟨ne.1,ne.2.1,ne.2.2.1,ne.2.2.2.1,ne.2.2.2.2,(na e (by simp)).symm,(nb e (by simp)).symm⟩ λh' u' v' tk pu pv he' Z' s1 s2 hp1 hp2 kp=>Rb ?_) (Ts _))))
  have eu:u'=u:=by
   have q:its[i]?=some u':=by simpa using pu
   rw [hu] at q
   exact (Option.some.inj q).symm
  have ev:v'=v:=by
   have q:jts[i]?=some v':=by simpa using pv
   rw [hv] at q
   exact (Option.some.inj q).symm
  subst eu ev
  refine ⟨_,rfl,Mx he' λh2' he2 sb2=>?_⟩
  have T0:s.heap.objs.size≠e:=Xm (Qm he)
  have T1:s.heap.objs.size+1≠e:=Xm (Jx (Qm he))
  have hp1':IsPair h2' s.heap.objs.size u' v':=sb2.extBut _ _ T0 hp1
  have hp2':h2'.get? (s.heap.objs.size+1)=some { cls:=.type "tuple",data:=.seq #[.int i tk,.ref s.heap.objs.size] }:=sb2.extBut _ _ T1 hp2
  have hf0:=I.hok.fresh (Qh s.heap.objs.size)
  have hf1:=I.hok.fresh (Qad s.heap.objs.size)
  have fz:=I.fpOk (Qh s.heap.objs.size) hf0
  have fz1:=I.fpOk (Qad s.heap.objs.size) hf1
  have I2:Inv X pins σ H { s with heap:=h2',toks:=s.toks+1 }:=by
   refine I.turnedL (t':=s.toks+1) [e,z,TO,i1,i2] (λc o hc' q=>?_) (λc hc'=>hf c ?_)
   ·simp only [Qn,Qs,or_false,not_or] at hc'
    exact sb2.extBut _ _ hc'.1 (kp c o hc'.1 hc'.2.1 hc'.2.2.1 hc'.2.2.2.1 hc'.2.2.2.2 q)
   ·simp only [Qn,Qs,or_false] at hc' ⊢
    rcases hc' with r | r | r | r | r
    ·exact .inl r
    ·exact .inr (.inl r)
    ·exact .inr (.inr (.inr (.inl r)))
    ·exact .inr (.inr (.inr (.inr (.inl r))))
    ·exact .inr (.inr (.inr (.inr (.inr r))))
  have I3:Inv X pins σ (upd H s.heap.objs.size (.tup [x,y])) { s with heap:=h2',toks:=s.toks+1 }:=by
   refine I2.trackO (show bN X.prog X.w _ _ _ (.tup [x,y]) from ⟨by show 2<=sizeLine; rw [Rf]; decide,[u',v'],0,.cons ru (.cons rv2 .nil),hp1'⟩) hf0 fz.2.1 I.sz fz.2.2.2.2.1 fz.2.2.2.2.2
  have nn:s.heap.objs.size+1≠s.heap.objs.size:=Nat.succ_ne_self _
  have I4:Inv X pins σ (upd (upd H s.heap.objs.size (.tup [x,y])) (s.heap.objs.size+1) (.tup [.int (i:Nat),.ref s.heap.objs.size])) { s with heap:=h2',toks:=s.toks+1 }:=by
   refine I3.trackO (show bN X.prog X.w _ _ _ (.tup [.int (i:Nat),.ref s.heap.objs.size]) from ⟨by show 2<=sizeLine; rw [Rf]; decide,[.int i tk,.ref s.heap.objs.size],0,.cons ⟨tk,rfl⟩ (.cons rfl .nil),hp2'⟩) (by rw [aH nn]; exact hf1) fz1.2.1 (Je I.sz (Qad _)) fz1.2.2.2.2.1 fz1.2.2.2.2.2
  obtain ⟨⟨g0,g1,hg,hz'⟩,hTI',⟨a',b',hTO'⟩⟩:=Z'
  refine ⟨.ref (s.heap.objs.size+1),_,I4,rfl,⟨s.heap.objs.size,s.heap.objs.size+1,hf0,hf1,nn,rfl,λxs' ys' ha' hb'=>?_⟩,⟨⟨_,by simpa using he2⟩,⟨⟨g0,g1,hg,sb2.extBut _ _ ne.1.symm hz'⟩,sb2.extBut _ _ ne.2.1.symm hTI',⟨_,_,sb2.extBut _ _ ne.2.2.1.symm hTO'⟩⟩,s1.1.at λo q=>sb2.extBut _ _ ne.2.2.2.1.symm q,s2.1.at λo q=>sb2.extBut _ _ ne.2.2.2.2.symm q⟩,λc hc'=>?_⟩
  ·rw [I.seqK_inj ha' ha,I.seqK_inj hb' hb]
   exact ⟨x,y,hx,hy,rfl⟩
  ·have cl:c < s.heap.objs.size:=by
    obtain ⟨o,q⟩:∃ o,s.heap.get? c=some o:=by
     obtain ⟨⟨f0,f1,hf',hz⟩,hTI,⟨x',y',hTO⟩⟩:=Z
     simp only [Qn,Qs,or_false] at hc'
     rcases hc' with rfl | rfl | rfl | rfl | rfl | rfl
     ·exact ⟨_,he⟩
     ·exact ⟨_,hz⟩
     ·exact ⟨_,hTI⟩
     ·exact ⟨_,hTO⟩
     ·obtain ⟨o,q,_⟩:=h1.obj; exact ⟨o,q⟩
     ·obtain ⟨o,q,_⟩:=h2.obj; exact ⟨o,q⟩
    exact Qm q
   rw [aH (Qz (Jx cl)),aH (Qz cl)]
   exact (hf c hc').1
 done:=by
  intro X hP hw hK hc i pins s σ H E I hf st hg
  subst hP hw hK
  obtain ⟨⟨old,he⟩,Z,h1,h2⟩:=st
  obtain ⟨xs,ys,ha,hb,hmin⟩:=hg
  obtain ⟨its,rv,pa⟩:=I.seqK ha
  obtain ⟨jts,rw',pb⟩:=I.seqK hb
  have la:=rv.length
  have lb:=rw'.length
  have na:∀ c∈[e,z,TI,TO,i1,i2],a≠c:=λc hc'=>I.seq_ne ha (hf c hc')
  have nb:∀ c∈[e,z,TI,TO,i1,i2],b≠c:=λc hc'=>I.seq_ne hb (hf c hc')
  have DD:=D a b na nb
  have hT:s.TypeIs (.ref e) "enumerate" := ⟨_,he,rfl⟩
  unfold pyNext
  refine Ra (Rx (Rh (name:=Str.ofString "__next__") hT Rq (Rj Rq hT Tw
   (aAa (I.ok.hd hc) DD (sV k1 X.prog X.w i1 a its.toArray (na i1 (by simp))) (sV k2 X.prog X.w i2 b jts.toArray (nb i2 (by simp))) he Z ⟨h1,pa⟩ ⟨h2,pb⟩ (by rw [Ql,Ql]; omega) λh' x kp hx=>?_) (Ts _))))
  obtain ⟨oe,hoe,hce⟩:=hx
  refine Ra (Tx (T := "StopIteration") (b:=true) ⟨oe,hoe,hce⟩ Ux (Rb ⟨rfl,?_⟩))
  refine I.turnedL (t':=s.toks) [z,TO,i1,i2] (λc o hc' q=>?_) (λc hc'=>hf c ?_)
  ·simp only [Qn,Qs,or_false,not_or] at hc'
   exact kp c o hc'.1 hc'.2.1 hc'.2.2.1 hc'.2.2.2 q
  ·simp only [Qn,Qs,or_false] at hc' ⊢
   rcases hc' with r | r | r | r
   ·exact .inr (.inl r)
   ·exact .inr (.inr (.inr (.inl r)))
   ·exact .inr (.inr (.inr (.inr (.inl r))))
   ·exact .inr (.inr (.inr (.inr (.inr r))))
 self:=λ_ _ _ _ _ st h=>by
  obtain ⟨⟨old,he⟩,_⟩:=st
  exact Vm he h
theorem tE (z TI TO:Addr) :
  Meets (Builtin.«enumerate.__new__» ⟨[.type "enumerate",.ref z],[]⟩) (λ_ R s=>IsZip s.heap z TI TO .none /\
   R (.ok (.ret (.ref s.heap.objs.size))) { s with heap:=s.heap.push { cls:=.type "enumerate",data:=.fields #[.none,.bool false,.ref z,rawInt 0,.none,.none] } }) :=
 .of_wp λprog w A R s h=>by
  obtain ⟨hp,g,d,tk,os⟩:=s
  obtain ⟨hl,h⟩:=h
  have hsub:=sub_enumerate
  have hZ:IsZip (Shared.heap ⟨hp,g,d,tk,os⟩) z TI TO .none:=hl
  wp_walk using AutoSeq1.wpAny_loadPart' hZ
  refine RaT λst=>Rb ?_
  split
  ·rename_i c _ _ _ _ _
   cases (c==Value.type "enumerate")
   ·wp_walk using AutoSeq1.wpAny_loadPart' hZ,Vc hZ
    exact ⟨_,rfl,h⟩
   ·wp_walk using AutoSeq1.wpAny_loadPart' hZ,Vc hZ
    exact ⟨_,rfl,h⟩
  ·wp_walk using AutoSeq1.wpAny_loadPart' hZ,Vc hZ
   exact ⟨_,rfl,h⟩
def aDx (K:Rc) (k1 k2:Sk) (ta:TA):TI:=λσ H R=>ta σ H λvs H1=>∃ a b xs ys,vs = [.ref a,.ref b]/\SqK k1 K H1 a xs/\SqK k2 K H1 b ys/\R (aDw K k1 k2 a b) H1
theorem aAb (k1 k2:Sk) {a b:Expr} {ta:TA} {p':Pos} (hg:Gl X "enumerate") (hm:X.mg "enumerate" = none) (hg2:Gl X "zip") (hm2:X.mg "zip" = none) (ha:PA X [a,b] ta) (hs:starEach [a,b] X.env = [(false,eval a X.env),(false,eval b X.env)]:=by rfl) (hs2:starEach [b] X.env = [(false,eval b X.env)]:=by rfl) (hs3:starEach [Expr.Call (.Name "zip" p') [a,b] [] pos'] X.env = [(false,eval (.Call (.Name "zip" p') [a,b] [] pos') X.env)]:=by rfl) :
  PI X (.Tuple es x1 tpos) (.Call (.Name "enumerate" p) [.Call (.Name "zip" p') [a,b] [] pos'] [] pos) (aDx X.K k1 k2 ta):=by
 intro pins s σ H R I h
 refine Call_ (iU (u:=.type "enumerate") I hg hm (by decide +kernel) (PyProof.Rows.callWith_type1 ?_ hs3 rfl))
 rw [hs3]
 show wpAny _ _ (spliced ((false,eval (.Call (.Name "zip" p') [a,b] [] pos') X.env)::[])) _ _ s
 refine Calls.spliced_cons ?_
 refine Call_ (iU (u:=.type "zip") I hg2 hm2 (by decide +kernel) (PyProof.Rows.callWith_type1 (thn (ha pos' pins s σ H _ I h) λus s1 hx9=>?_) (by rw [hs,hs2]) (by rw [hs2]; rfl)))
 obtain ⟨vs,H1,I1,r1,q1⟩:=hx9
 obtain ⟨l1,l2,xs,ys,rfl,hA,hB,q⟩:=q1
 obtain ⟨u1,u2,rfl,r1',r2'⟩:=pU r1
 cases r1'
 cases r2'
 obtain ⟨its,rv,pa⟩:=I1.seqK hA
 obtain ⟨jts,rw',pb⟩:=I1.seqK hB
 refine Vr Mz (by decide) (Mh _ _) (Mn _ _) (λobj=>Ir obj _ _) Mp (xG k1 k2 l1 l2 its.toArray jts.toArray) ⟨pa,pb,?_⟩
 have n1:(zh1 k1 s1.heap l1).objs.size=s1.heap.objs.size+1:=Jk ..
 have n2:(zh2 k1 k2 s1.heap l1 l2).objs.size=s1.heap.objs.size+2:=by rw [Jk,n1]
 have n3:(zh3 k1 k2 s1.heap l1 l2).objs.size=s1.heap.objs.size+3:=by rw [Jk,n2]
 have n4:(zh4 k1 k2 s1.heap l1 l2).objs.size=s1.heap.objs.size+4:=by rw [Jk,n3]
 have n5:(zh5 k1 k2 s1.heap l1 l2).objs.size=s1.heap.objs.size+5:=by rw [Jk,n4]
 have g5:IsZip (zh5 k1 k2 s1.heap l1 l2) (zh4 k1 k2 s1.heap l1 l2).objs.size (zh2 k1 k2 s1.heap l1 l2).objs.size (zh3 k1 k2 s1.heap l1 l2).objs.size .none:=Qg _ rfl
 have g4:IsPair (zh5 k1 k2 s1.heap l1 l2) (zh3 k1 k2 s1.heap l1 l2).objs.size .none .none:=Qa _ (Qg _ rfl)
 have g3:IsPair (zh5 k1 k2 s1.heap l1 l2) (zh2 k1 k2 s1.heap l1 l2).objs.size (.ref s1.heap.objs.size) (.ref (zh1 k1 s1.heap l1).objs.size):=Qa _ (Qa _ (Qg _ rfl))
 have g2:ItK k2 (zh5 k1 k2 s1.heap l1 l2) (zh1 k1 s1.heap l1).objs.size l2 0:=(ItK.new k2 (zh1 k1 s1.heap l1) l2).at λo e=>Qa _ (Qa _ (Qa _ e))
 have g1:ItK k1 (zh5 k1 k2 s1.heap l1 l2) s1.heap.objs.size l1 0:=(ItK.new k1 s1.heap l1).at λo e=>Qa _ (Qa _ (Qa _ (Qa _ e)))
 have kp:∀ c o,s1.heap.get? c=some o->(zh5 k1 k2 s1.heap l1 l2).get? c=some o:=λc o e=>Qa _ (Qa _ (Qa _ (Qa _ (Qa _ e))))
 refine ⟨⟨_,g5,rfl⟩,Calls.spliced_nil ?_⟩
 rw [n1,n2,n3,n4] at *
 generalize zh5 k1 k2 s1.heap l1 l2=hz5 at *
 refine Vr Iz (by decide) (Ib _) (Ii _) (λobj=>Ve obj _) Ij (tE (s1.heap.objs.size+4) (s1.heap.objs.size+2) (s1.heap.objs.size+3)) ⟨g5,?_⟩
 have ge:IsEnum (hz5.push { cls:=.type "enumerate",data:=.fields #[.none,.bool false,.ref (s1.heap.objs.size+4),rawInt 0,.none,.none] }) hz5.objs.size (s1.heap.objs.size+4) 0 .none:=Qg _ rfl
 have kp6:∀ c o,hz5.get? c=some o->(hz5.push { cls:=.type "enumerate",data:=.fields #[.none,.bool false,.ref (s1.heap.objs.size+4),rawInt 0,.none,.none] }).get? c=some o:=λc o e=>Qa _ e
 rw [n5] at ge
 show (∃ _,_)/\_
 rw [n5]
 generalize hz5.push { cls:=.type "enumerate",data:=.fields #[.none,.bool false,.ref (s1.heap.objs.size+4),rawInt 0,.none,.none] }=h6 at ge kp6 ⊢
 refine ⟨⟨_,ge,rfl⟩,Vm ge ?_⟩
 have I2:Inv X pins σ H1 { s1 with heap:=h6 }:=I1.kept (t':=s1.toks) λc o e=>kp6 c o (kp c o e)
 have d:∀ i j:Nat,i≠j->s1.heap.objs.size+i≠s1.heap.objs.size+j:=λi j h=>by omega
 refine ⟨s1.heap.objs.size+5,[s1.heap.objs.size+5,s1.heap.objs.size+4,s1.heap.objs.size+2,s1.heap.objs.size+3,s1.heap.objs.size,s1.heap.objs.size+1],_,_,H1,rfl,I2,vJ k1 k2 l1 l2 _ _ _ _ _ _ ?_ ⟨d 5 4 (by decide),d 5 2 (by decide),d 5 3 (by decide),d 5 0 (by decide),d 5 1 (by decide)⟩,⟨⟨_,ge⟩,⟨⟨_,_,.inl rfl,kp6 _ _ g5⟩,kp6 _ _ g3,⟨_,_,kp6 _ _ g4⟩⟩,g1.at λo e=>kp6 _ _ e,g2.at λo e=>kp6 _ _ e⟩,λc hc=>?_,q⟩
 ·intro m1 m2 h1 h2
  exact ⟨d 2 4 (by decide),d 3 4 (by decide),d 0 4 (by decide),d 1 4 (by decide),d 2 3 (by decide),d 2 0 (by decide),d 2 1 (by decide),d 3 0 (by decide),d 3 1 (by decide),d 0 1 (by decide),
   h1 _ (by simp),h1 _ (by simp),h1 _ (by simp),h1 _ (by simp),h2 _ (by simp),h2 _ (by simp),h2 _ (by simp),h2 _ (by simp)⟩
 ·have hc':s1.heap.objs.size<=c:=by
   simp only [Qn,Qs,or_false] at hc
   rcases hc with r | r | r | r | r | r <;> rw [r]
   all_goals first | exact Qh _ | exact Xy _ _
  exact I1.fpOk hc' (I1.hok.fresh hc')
theorem xW {D:Ends} {σ:St} (Pv:Nat->St->Hp->Prop) (heq:xs.length=ys.length) (h0:Pv 0 σ H) (hl:∀ i σ H,i<=xs.length->Pv i σ H->SqK k1 K H a xs/\SqK k2 K H b ys) (hs:∀ i x y p q σ H,xs[i]?=some x->ys[i]?=some y->Pv i σ H->H p=none->H q=none->q≠p->g (.ref q) σ (upd (upd H p (.tup [x,y])) q (.tup [.int (i:Nat),.ref p])) λσ2 H2=>tb { D with nx:=Pv (i+1),ct:=Pv (i+1),bk:=D.nx } σ2 H2) (hd:∀ σ H,Pv xs.length σ H->D.nx σ H) :
  ∃ W:Nat->Nat->St->Hp->Prop,(∃ m,W 0 m σ H)/\∀ i m σ H,W i m σ H ->
   ((aDw K k1 k2 a b).stop i H/\D.nx σ H)∨((aDw K k1 k2 a b).go i H/\∃ N:St->Hp->Prop,(∀ σ' H',N σ' H'->∃ m',m' < m/\W (i+1) m' σ' H')/\∀ x H',(aDw K k1 k2 a b).yld i H x H'->g x σ H' λσ2 H2=>tb { D with nx:=N,ct:=N,bk:=D.nx } σ2 H2):=by
 refine ⟨λi m σ H=>m=xs.length - i/\i<=xs.length/\Pv i σ H,⟨xs.length,by simp,Jr _,h0⟩,?_⟩
 rintro i m σ H ⟨rfl,hi,p⟩
 obtain ⟨q1,q2⟩:=hl i σ H hi p
 by_cases hlt:i < xs.length
 ·refine .inr ⟨⟨xs,ys,xs[i],ys[i]'(by omega),q1,q2,Qc hlt,Qc (by omega)⟩,Pv (i+1),λσ' H' p'=>⟨xs.length - (i+1),by omega,rfl,hlt,p'⟩,λx H' y=>?_⟩
  obtain ⟨p1,q1',hp1,hq1,hne,rfl,hy⟩:=y
  obtain ⟨x,y,h1,h2,rfl⟩:=hy xs ys q1 q2
  exact hs i x y p1 q1' σ H h1 h2 p hp1 hq1 hne
 ·have e:i=xs.length:=by omega
  subst e
  exact .inl ⟨⟨xs,ys,q1,q2,by rw [<- heq,Nat.min_self]⟩,hd σ H p⟩
end L2
namespace L2
open PySem
def aGs (K:Rc):List V->Hp->VK->Prop:=λxs H Q=>∃ p ys,xs = [.ref p]/\((SqL K H p ys/\∀ l,H l=none->Q (.ref l) (upd H l (.tup ys)))∨(SqT K H p ys/\Q (.ref p) H))
theorem aAc (hK:X.K=K):dM X (.type "tuple") (aGs K):=by subst hK; exact bV
theorem kIn (hK:X.K=K):OpR X (compareOp .In) (rIn K false):=by subst hK; exact oT
section
variable {γ δ ε ζ η θ ι:Type}
end
end L2
namespace L2
open PySem PySem.Spec PyProof.Rows
section
variable {own:Nat} {fr:List Nat} {σ:St}
end
theorem aDy {xs:Array Nat} (hs:xs.toList.Pairwise (· < ·)):∀ (fuel lo hi:Nat),hi - lo<=fuel->lo<=hi->hi<=xs.size->(∀ i v,i < lo->xs[i]?=some v->v < j)->(∀ i v,hi<=i->xs[i]?=some v->j<=v) ->
  SetTable.below.go xs j fuel lo hi<=xs.size/\(∀ i v,i < SetTable.below.go xs j fuel lo hi->xs[i]?=some v->v < j)/\(∀ i v,SetTable.below.go xs j fuel lo hi<=i->xs[i]?=some v->j<=v):=by
 have mono:∀ i k u v,i < k->xs[i]?=some u->xs[k]?=some v->u < v:=λi k u v hik hu hv=>by
  rw [<- Array.getElem?_toList] at hu hv
  obtain ⟨h1,e1⟩:=Qd.mp hu
  obtain ⟨h2,e2⟩:=Qd.mp hv
  rw [<- e1,<- e2]
  exact Xv.mp hs i k h1 h2 hik
 intro fuel
 induction fuel with
 | zero =>
  intro lo hi h1 h2 h3 h4 h5
  have e:hi=lo:=by omega
  subst e
  exact ⟨h3,h4,h5⟩
 | succ fuel ih =>
  intro lo hi h1 h2 h3 h4 h5
  have e:SetTable.below.go xs j (fuel+1) lo hi=if lo < hi then (if xs.getD ((lo+hi) / 2) j < j then SetTable.below.go xs j fuel ((lo+hi) / 2+1) hi else SetTable.below.go xs j fuel lo ((lo+hi) / 2)) else lo:=rfl
  rw [e]
  by_cases hlt:lo < hi
  ·rw [if_pos hlt]
   have hm:(lo+hi) / 2 < xs.size:=by omega
   have hg:xs[(lo+hi) / 2]?=some (xs.getD ((lo+hi) / 2) j):=by
    rw [Array.getD_eq_getD_getElem?,Array.getElem?_eq_getElem hm]; rfl
   by_cases hc:xs.getD ((lo+hi) / 2) j < j
   ·rw [if_pos hc]
    refine ih _ _ (by omega) (by omega) h3 (λi v hi' hv=>?_) h5
    rcases Yz i ((lo+hi) / 2) with z | z
    ·exact Yq (mono _ _ _ _ z hv hg) hc
    ·have:i=(lo+hi) / 2:=by omega
     subst this
     rw [hg] at hv
     rw [<- Option.some.inj hv]; exact hc
   ·rw [if_neg hc]
    refine ih _ _ (by omega) (by omega) (by omega) h4 (λi v hi' hv=>?_)
    rcases Yz ((lo+hi) / 2) i with z | z
    ·have:=mono _ _ _ _ z hg hv
     omega
    ·have:i=(lo+hi) / 2:=by omega
     subst this
     rw [hg] at hv
     rw [<- Option.some.inj hv]; omega
  ·rw [if_neg hlt]
   have e:hi=lo:=by omega
   subst e
   exact ⟨h3,h4,h5⟩
theorem tX {xs:Array Nat} (hs:xs.toList.Pairwise (· < ·)) (j:Nat):SetTable.below xs j<=xs.size/\(∀ i v,i < SetTable.below xs j->xs[i]?=some v->v < j)/\(∀ i v,SetTable.below xs j<=i->xs[i]?=some v->j<=v) :=
 aDy hs xs.size 0 xs.size (by omega) (Jr _) (Qh _) (λi v h=>absurd h (Zm _)) (λi v h e=>by rw [Array.getElem?_eq_none h] at e; cases e)
def mO (xs:Array Nat) (i:Nat):Nat:=if i=0 then 0 else (xs[i - 1]?).getD 0+1
theorem aAd {xs:Array Nat} (hs:xs.toList.Pairwise (· < ·)) {i:Nat} (hi:i<=xs.size):SetTable.below xs (mO xs i)=i:=by
 obtain ⟨h1,h2,h3⟩:=tX hs (mO xs i)
 have mono:∀ i k u v,i < k->xs[i]?=some u->xs[k]?=some v->u < v:=λi k u v hik hu hv=>by
  rw [<- Array.getElem?_toList] at hu hv
  obtain ⟨h1,e1⟩:=Qd.mp hu
  obtain ⟨h2,e2⟩:=Qd.mp hv
  rw [<- e1,<- e2]
  exact Xv.mp hs i k h1 h2 hik
 rcases Nat.lt_trichotomy (SetTable.below xs (mO xs i)) i with z | z | z
 ·exfalso
  have hlt:i - 1 < xs.size:=by omega
  have e:xs[i - 1]?=some xs[i - 1]:=Array.getElem?_eq_getElem hlt
  have:=h3 (i - 1) _ (by omega) e
  unfold mO at this
  rw [if_neg (by omega),e] at this
  have:xs[i - 1]+1<=xs[i - 1]:=this
  omega
 ·exact z
 ·exfalso
  have hlt:i < xs.size:=by omega
  have e:xs[i]?=some xs[i]:=Array.getElem?_eq_getElem hlt
  have:=h2 i _ z e
  unfold mO at this
  by_cases h0:i=0
  ·rw [if_pos h0] at this; omega
  ·have hlt':i - 1 < xs.size:=by omega
   have e':xs[i - 1]?=some xs[i - 1]:=Array.getElem?_eq_getElem hlt'
   rw [if_neg h0,e'] at this
   have this:xs[i] < xs[i - 1]+1:=this
   have:=mono (i - 1) i _ _ (by omega) e' e
   omega
def lpN (mask:Nat):Nat->Nat×Nat->Nat×Nat
 | 0,p=>p
 | n+1,p=>lpN mask n (SetTable.leap mask p.1 p.2)
theorem vK (mask:Nat):∀ (a b:Nat) (p:Nat×Nat),lpN mask (a+b) p=lpN mask b (lpN mask a p)
 | 0,b,p=>by rw [Qau]; rfl
 | a+1,b,p=>by
  rw [show a+1+b=(a+b)+1 by omega]
  exact vK mask a b _
theorem xX (mask:Nat):∀ (k:Nat) (p:Nat×Nat),p.2 < 32^k->p.1<=mask->∃ i,i<=mask/\lpN mask k p=(i,0)
 | 0,p,h,hi=>⟨p.1,hi,by
   obtain ⟨a,b⟩:=p
   have:b=0:=by have h:b < 32^0:=h; omega
   subst this; rfl⟩
 | k+1,p,h,hi=>by
  refine xX mask k _ ?_ ?_
  ·show p.2 / 32 < 32^k
   rw [Qav] at h
   omega
  ·show (p.1*5+1+p.2 / 32) % (mask+1)<=mask
   have:=Qaq (p.1*5+1+p.2 / 32) (show 0 < mask+1 by omega)
   omega
theorem lg7:∀ i j:Fin 8,∃ n:Fin 8,(lpN 7 n.val (i.val,0)).1=j.val:=by decide +kernel
theorem aHU:∀ i j:Fin 32,∃ n:Fin 32,(lpN 31 n.val (i.val,0)).1=j.val:=by decide +kernel
theorem aFN (hm:mask=7∨mask=31) {i pt:Nat} (hi:i<=mask) (hp:pt < 2^64) (hj:j<=mask):∃ n,n<=mask+13/\(lpN mask n (i,pt)).1=j:=by
 obtain ⟨i',hi',e⟩:=xX mask 13 (i,pt) (show pt < 32^13 by omega) hi
 rcases hm with rfl | rfl
 ·obtain ⟨n,hn⟩:=lg7 ⟨i',by omega⟩ ⟨j,by omega⟩
  exact ⟨13+n.val,by have:=n.isLt; omega,by rw [vK,e]; exact hn⟩
 ·obtain ⟨n,hn⟩:=aHU ⟨i',by omega⟩ ⟨j,by omega⟩
  exact ⟨13+n.val,by have:=n.isLt; omega,by rw [vK,e]; exact hn⟩
def vL (t:SetTable):Nat->SetTable.Probe->SetTable.Probe
 | 0,p=>p
 | n+1,p=>vL t n (t.advance p)
theorem xY (t:SetTable):∀ (a b:Nat) (p:SetTable.Probe),vL t (a+b) p=vL t b (vL t a p)
 | 0,b,p=>by rw [Qau]; rfl
 | a+1,b,p=>by
  rw [show a+1+b=(a+b)+1 by omega]
  exact xY t a b _
theorem aCb (t:SetTable) (p:SetTable.Probe):(t.advance p).dummy=p.dummy:=by
 unfold SetTable.advance
 split <;> rfl
theorem vM (j:Nat):SetTable.has #[] j=false:=rfl
theorem rG {t:SetTable} (hd:t.dummies = #[]) (j:Nat):t.slot j=.empty∨∃ i,t.slot j=.live i:=by
 unfold SetTable.slot
 dsimp only
 by_cases h:(t.place[SetTable.below t.place j]?==some j)=true
 ·rw [if_pos h]; exact .inr ⟨_,rfl⟩
 ·rw [if_neg h,hd,vM]
  exact .inl (if_neg (by decide))
theorem xZ {t:SetTable} (hd:t.dummies = #[]) {hashAt:Nat->Int} {h:Int} (hh:∀ i,(hashAt i==h)=false):∀ (fuel:Nat) (p:SetTable.Probe) (n:Nat),n < fuel->p.dummy=none->t.slot (vL t n p).j=.empty->∃ j,SetTable.probe.go t hashAt h fuel p=some (.empty j none)/\t.slot j=.empty
 | 0,p,n,hn,_,_=>absurd hn (Zm _)
 | fuel+1,p,n,hn,hp,hs=>by
  have e:SetTable.probe.go t hashAt h (fuel+1) p=(match t.slot p.j with
   | .empty=>some (.empty p.j p.dummy)
   | .dummy=>SetTable.probe.go t hashAt h fuel (t.advance { p with dummy:=some p.j })
   | .live i=>if (hashAt i==h)=true then some (.candidate p.j i (t.advance p)) else SetTable.probe.go t hashAt h fuel (t.advance p)):=rfl
  rcases rG hd p.j with q | ⟨i,q⟩
  ·refine ⟨p.j,?_,q⟩
   rw [e,q,hp]
  ·rw [e,q]
   simp only [hh,Jg,if_false]
   cases n with
   | zero=>rw [show vL t 0 p=p from rfl,q] at hs; cases hs
   | succ n=>exact xZ hd hh fuel (t.advance p) n (by omega) (by rw [aCb]; exact hp) hs
def StP (mask:Nat) (p:Nat×Nat):SetTable.Probe:={ j:=p.1,more:=SetTable.runEnd mask p.1 - p.1,i:=p.1,perturb:=p.2,dummy:=none }
theorem aA4 (t:SetTable) (i pt:Nat):∀ (m j:Nat),vL t (m+1) { j:=j,more:=m,i:=i,perturb:=pt,dummy:=none }=StP t.mask (SetTable.leap t.mask i pt)
 | 0,j=>rfl
 | m+1,j=>aA4 t i pt m (j+1)
theorem aGt (mask i:Nat):SetTable.runEnd mask i - i<=9:=by
 unfold SetTable.runEnd
 split <;> omega
theorem tY (t:SetTable):∀ (k:Nat) (p:Nat×Nat),∃ n,n<=10*k/\vL t n (StP t.mask p)=StP t.mask (lpN t.mask k p)
 | 0,p=>⟨0,Qh _,rfl⟩
 | k+1,p=>by
  obtain ⟨n,hn,e⟩:=tY t k (SetTable.leap t.mask p.1 p.2)
  refine ⟨(SetTable.runEnd t.mask p.1 - p.1+1)+n,by have:=aGt t.mask p.1; omega,?_⟩
  rw [xY]
  have e2:vL t (SetTable.runEnd t.mask p.1 - p.1+1) (StP t.mask p)=StP t.mask (SetTable.leap t.mask p.1 p.2):=aA4 t p.1 p.2 _ _
  rw [e2]
  exact e
theorem aA5 (h:Int):SetTable.bits h < 2^64:=by
 unfold SetTable.bits
 have h1:=Xi h (show (0:Int) < 2^64 by decide)
 have h2:=Xt h (show (2^64:Int)≠0 by decide)
 omega
theorem aEZ {t:SetTable} (hm:t.mask=7∨t.mask=31) (hd:t.dummies = #[]) {j0:Nat} (hj:j0<=t.mask) (hs:t.slot j0=.empty) (h:Int):∃ j,t.freeSlot h=some (j,false)/\t.slot j=.empty:=by
 have hlt:=Qaq (SetTable.bits h) (show 0 < t.mask+1 by omega)
 obtain ⟨k,hk,e⟩:=aFN hm (i:=SetTable.bits h % (t.mask+1)) (pt:=SetTable.bits h) (by omega) (aA5 h) hj
 obtain ⟨n,hn,e2⟩:=tY t k (SetTable.bits h % (t.mask+1),SetTable.bits h)
 obtain ⟨j,e3,e4⟩:=xZ hd (hashAt:=λ_=>h+1) (h:=h) (λi=>beq_eq_false_iff_ne.mpr (by omega)) (10*SetTable.turns t.mask) (StP t.mask (SetTable.bits h % (t.mask+1),SetTable.bits h)) n (by unfold SetTable.turns; omega) rfl (by
  rw [e2]
  show t.slot (lpN t.mask k (SetTable.bits h % (t.mask+1),SetTable.bits h)).1=_
  rw [e]; exact hs)
 refine ⟨j,?_,e4⟩
 have e5:t.probe (λx=>h+1) h (t.probeStart h)=some (.empty j none):=e3
 unfold SetTable.freeSlot
 rw [e5]
 rfl
theorem gap:∀ (l:List Nat) (b:Nat),l.Pairwise (· < ·)->(∀ x∈l,b<=x)->∃ j,b<=j/\j<=b+l.length/\j∉l
 | [],b,_,_=>⟨b,Qh _,Qh _,Qs⟩
 | x::r,b,h,hb=>by
  obtain ⟨h1,h2⟩:=Ze.mp h
  by_cases z:x=b
  ·obtain ⟨j,j1,j2,j3⟩:=gap r (b+1) h2 λy hy=>by have:=h1 y hy; omega
   refine ⟨j,by omega,by rw [Ja]; omega,λm=>?_⟩
   rcases Qn.mp m with m | m
   ·omega
   ·exact j3 m
  ·refine ⟨b,Qh _,by omega,λm=>?_⟩
   have hx:=hb x (Qj ..)
   rcases Qn.mp m with m | m
   ·exact z m.symm
   ·have:=h1 b m; omega
theorem aAe {t:SetTable} (hd:t.dummies = #[]) (h:j∉t.place.toList):t.slot j=.empty:=by
 rcases rG hd j with q | ⟨i,q⟩
 ·exact q
 ·exfalso
  unfold SetTable.slot at q
  dsimp only at q
  by_cases z:(t.place[SetTable.below t.place j]?==some j)=true
  ·have z':=eq_of_beq z
   rw [<- Array.getElem?_toList] at z'
   exact h (Qi z')
  ·rw [if_neg z,hd,vM] at q
   simp at q
theorem aDz {t:SetTable} (h:t.slot j=.empty):t.place[SetTable.below t.place j]?≠some j:=λz=>by
 unfold SetTable.slot at h
 dsimp only at h
 rw [if_pos (by rw [z]; exact beq_self_eq_true _)] at h
 cases h
theorem jG (xs:Array α) (p:Nat) (x:α):(SetTable.insertAt xs p x).toList=xs.toList.take p++x::xs.toList.drop p:=by
 unfold SetTable.insertAt
 rw [Array.toList_append,Array.toList_push,Array.toList_extract,Array.toList_extract]
 simp only [List.extract_eq_drop_take,Wa,Qas]
 rw [Ym]
 congr 1
 rw [Ww]
 congr 1
 rw [Jq]
 rw [Jy,Array.length_toList]
 exact Qh _
theorem tF {xs:Array Nat} (hs:xs.toList.Pairwise (· < ·)) (h:xs[SetTable.below xs j]?≠some j):(SetTable.insertAt xs (SetTable.below xs j) j).toList.Pairwise (· < ·):=by
 obtain ⟨h1,h2,h3⟩:=tX hs j
 rw [jG]
 have hgt:∀ y∈xs.toList.drop (SetTable.below xs j),j < y:=λy hy=>by
  obtain ⟨i,hi⟩:=Jb.mp hy
  rw [Qak,Array.getElem?_toList] at hi
  have hle:=h3 _ _ (Xy _ _) hi
  rcases Yz j y with z | z
  ·exact z
  ·exfalso
   have e:y=j:=by omega
   subst e
   cases i with
   | zero=>exact h hi
   | succ i =>
    have hlt:SetTable.below xs y < xs.size:=by
     have:=(Array.getElem?_eq_some_iff.mp hi).1
     omega
    have e1:xs[SetTable.below xs y]?=some xs[SetTable.below xs y]:=Array.getElem?_eq_getElem hlt
    have h4:=h3 _ _ (Qh _) e1
    have h5:xs[SetTable.below xs y] < y:=by
     rw [<- Array.getElem?_toList] at hi e1
     obtain ⟨q1,r1⟩:=Qd.mp e1
     obtain ⟨q2,r2⟩:=Qd.mp hi
     have:=Xv.mp hs _ _ q1 q2 (by omega)
     rw [r1,r2] at this
     exact this
    omega
 have hlt:∀ y∈xs.toList.take (SetTable.below xs j),y < j:=λy hy=>by
  obtain ⟨i,hi⟩:=Jb.mp hy
  have hi2:i < SetTable.below xs j:=by
   have:=(Qd.mp hi).1
   rw [Qv] at this
   omega
  rw [Wf hi2,Array.getElem?_toList] at hi
  exact h2 _ _ hi2 hi
 refine Zz.mpr ⟨hs.sublist (List.take_sublist _ _),Ze.mpr ⟨hgt,hs.sublist (List.drop_sublist _ _)⟩,λa ha b hb=>?_⟩
 rcases Qn.mp hb with rfl | hb
 ·exact hlt a ha
 ·exact Yq (hlt a ha) (hgt b hb)
structure Tb (L:Bool) (t:SetTable) (n m:Nat):Prop where
 mask:(t.mask=7/\n<=m)∨(t.mask=31/\n<=18)
 dums:t.dummies = #[]
 plain:t.plain=true
 led:t.led=L
 size:t.place.size=n
 rise:t.place.toList.Pairwise (· < ·)
theorem Tb.fits {t:SetTable} {n m:Nat} (T:Tb L t n m) (hm:m<=6):t.fits n=true:=by
 unfold SetTable.fits SetTable.fill
 rw [T.size,T.dums]
 have:n+(#[]:Array Nat).size<=t.mask:=by
  show n+0<=_
  rcases T.mask with ⟨a,b⟩ | ⟨a,b⟩ <;> omega
 rw [decide_eq_true this,beq_self_eq_true]
 rfl
theorem Tb.lay {t:SetTable} {es:Array (Int×Value)} (T:Tb L t es.size 4) (hn:es.size<=17) (h:Int) (x:Value) :
  ∃ es' t',layNew t es h x=(es',t',false,false)/\es'.toList.Perm ((h,x)::es.toList)/\Tb L t' es'.size 5/\es'.size=es.size+1:=by
 have hm:t.mask=7∨t.mask=31:=by rcases T.mask with ⟨a,_⟩ | ⟨a,_⟩ <;> simp [a]
 obtain ⟨j0,_,j2,j3⟩:=gap t.place.toList 0 T.rise λx _=>Jr _
 have hj0:j0<=t.mask:=by
  rw [Array.length_toList,T.size] at j2
  rcases T.mask with ⟨a,b⟩ | ⟨a,b⟩ <;> omega
 obtain ⟨j,ej,hj⟩:=aEZ hm T.dums hj0 (aAe T.dums j3) h
 have esz:(SetTable.insertAt es (SetTable.below t.place j) (h,x)).size=es.size+1:=by
  rw [<- Array.length_toList,jG,Qq,Ja,Qv,Jy,Array.length_toList]
  omega
 have eput:t.put j=({ t with place:=SetTable.insertAt t.place (SetTable.below t.place j) j,dummies:=#[] },SetTable.below t.place j):=by
  unfold SetTable.put
  dsimp only
  rw [T.dums,vM]
  rfl
 have T':Tb L { t with place:=SetTable.insertAt t.place (SetTable.below t.place j) j,dummies:=#[] } (es.size+1) 5:=by
  refine ⟨?_,rfl,T.plain,T.led,?_,tF T.rise (aDz hj)⟩
  ·rcases T.mask with ⟨a,b⟩ | ⟨a,b⟩
   ·exact .inl ⟨a,by omega⟩
   ·exact .inr ⟨a,by omega⟩
  ·show (SetTable.insertAt t.place _ j).size=_
   rw [<- Array.length_toList,jG,Qq,Ja,Qv,Jy,Array.length_toList,T.size]
   omega
 refine ⟨SetTable.insertAt es (SetTable.below t.place j) (h,x),_,?_,?_,by rw [esz]; exact T',esz⟩
 ·unfold layNew
  rw [ej]
  dsimp only
  rw [eput]
  dsimp only
  rw [esz]
  unfold SetTable.orStandIn
  rw [T'.fits (by decide)]
  rfl
 ·rw [jG]
  exact Wo.trans (List.Perm.cons _ (by rw [Zf]))
theorem aA6:∀ (l:List (Option Nat)),(l.filterMap id).length < l.length->∃ j:Nat,l[j]?=some none
 | [],h=>absurd h (Zm _)
 | none::r,_=>⟨0,rfl⟩
 | some a::r,h=>by
  obtain ⟨j,hj⟩:=aA6 r (by
   rw [Wg (f:=id) (a:=some a) (b:=a) rfl,Ja,Ja] at h
   omega)
  exact ⟨j+1,hj⟩
theorem aDA {l:List (Option Nat)} {k:Nat} (h:l[j]?=some none):((l.set j (some k)).filterMap id).Perm (k::l.filterMap id):=by
 obtain ⟨hj,e⟩:=Qd.mp h
 have e1:l=l.take j++none::l.drop (j+1):=by
  rw [<- e,Wr hj,Zf]
 have e2:l.set j (some k)=l.take j++some k::l.drop (j+1):=by
  rw [Xu,if_pos hj]
 have e3:l.filterMap id=(l.take j).filterMap id++(l.drop (j+1)).filterMap id:=by
  have:=congrArg (List.filterMap id) e1
  rw [this,Wx,List.filterMap_cons_none (f:=id) rfl]
 rw [e2,e3,Wx,Wg (f:=id) (a:=some k) (b:=k) rfl]
 exact Wo
theorem aA7 (mask:Nat) (owner:Array (Option Nat)):∀ (fuel i pt n:Nat),n < fuel->owner.getD (lpN mask n (i,pt)).1 (some 0)=none->∃ j,SetTable.layClean.free mask owner fuel i pt=some j/\owner.getD j (some 0)=none
 | 0,i,pt,n,h,_=>absurd h (Zm _)
 | fuel+1,i,pt,n,h,hn=>by
  have e:SetTable.layClean.free mask owner (fuel+1) i pt=(match List.find? (λk=>(owner.getD (i+k) (some 0)).isNone) (List.range (SetTable.runEnd mask i+1 - i)) with
   | some k=>some (i+k)
   | none=>SetTable.layClean.free mask owner fuel (SetTable.leap mask i pt).1 (SetTable.leap mask i pt).2):=rfl
  rw [e]
  cases q:List.find? (λk=>(owner.getD (i+k) (some 0)).isNone) (List.range (SetTable.runEnd mask i+1 - i)) with
  | some k =>
   refine ⟨i+k,rfl,?_⟩
   have:=List.find?_some q
   exact Option.isNone_iff_eq_none.mp this
  | none =>
   cases n with
   | zero =>
    exfalso
    have hr:0∈List.range (SetTable.runEnd mask i+1 - i):=Jw.mpr (by unfold SetTable.runEnd; split <;> omega)
    have:=List.find?_eq_none.mp q 0 hr
    rw [show lpN mask 0 (i,pt)=(i,pt) from rfl] at hn
    have hn:owner.getD i (some 0)=none:=hn
    rw [Nat.add_zero,hn] at this
    exact this rfl
   | succ n=>exact aA7 mask owner fuel _ _ n (by omega) hn
theorem aE0 {owner:Array (Option Nat)} (h:owner.getD j (some 0)=none):owner.toList[j]?=some none:=by
 rw [Array.getD_eq_getD_getElem?] at h
 rw [Array.getElem?_toList]
 cases q:owner[j]? with
 | none=>rw [q] at h; cases h
 | some v=>rw [q] at h; rw [show v=none from h]
def vN (mask:Nat) (acc:Option (Array (Option Nat)×Nat)) (h:Int):Option (Array (Option Nat)×Nat):=do
 let x<-acc
 match x with
 | (owner, k) => do
   let j<-SetTable.layClean.free mask owner (SetTable.turns mask) (SetTable.bits h % (mask+1)) (SetTable.bits h)
   pure (owner.setIfInBounds j (some k),k+1)
theorem rH (hm:mask=7∨mask=31):∀ (hs:List Int) (owner:Array (Option Nat)) (k:Nat),owner.size=mask+1->(owner.toList.filterMap id).Perm (List.range k)->k+hs.length<=mask ->
  ∃ owner',hs.foldl (vN mask) (some (owner,k))=some (owner',k+hs.length)/\owner'.size=mask+1/\(owner'.toList.filterMap id).Perm (List.range (k+hs.length))
 | [],owner,k,h1,h2,_=>⟨owner,rfl,h1,h2⟩
 | h::hs,owner,k,h1,h2,h3=>by
  rw [Ja] at h3
  obtain ⟨j0,hj0⟩:=aA6 owner.toList (by rw [h2.length_eq,Js,Array.length_toList]; omega)
  have hj0l:=(Qd.mp hj0).1
  rw [Array.length_toList] at hj0l
  have hlt:=Qaq (SetTable.bits h) (show 0 < mask+1 by omega)
  obtain ⟨n,hn,e⟩:=aFN hm (i:=SetTable.bits h % (mask+1)) (pt:=SetTable.bits h) (j:=j0) (by omega) (aA5 h) (by omega)
  obtain ⟨j,ej,hj⟩:=aA7 mask owner (SetTable.turns mask) (SetTable.bits h % (mask+1)) (SetTable.bits h) n (by unfold SetTable.turns; omega) (by
   rw [e,Array.getD_eq_getD_getElem?,<- Array.getElem?_toList,hj0]; rfl)
  have hjl:=aE0 hj
  have es:vN mask (some (owner,k)) h=some (owner.setIfInBounds j (some k),k+1):=by
   show (do let j<-SetTable.layClean.free mask owner (SetTable.turns mask) (SetTable.bits h % (mask+1)) (SetTable.bits h); pure (owner.setIfInBounds j (some k),k+1))=_
   rw [ej]; rfl
  have hp:((owner.setIfInBounds j (some k)).toList.filterMap id).Perm (List.range (k+1)):=by
   rw [Array.toList_setIfInBounds]
   refine (aDA hjl).trans ?_
   rw [List.range_succ]
   exact (List.Perm.cons _ h2).trans (List.perm_append_singleton _ _).symm
  obtain ⟨o',r1,r2,r3⟩:=rH hm hs (owner.setIfInBounds j (some k)) (k+1) (by rw [Array.size_setIfInBounds]; exact h1) hp (by omega)
  refine ⟨o',?_,r2,?_⟩
  ·rw [List.foldl_cons,es,r1,Ja]
   congr 2; omega
  ·rw [Ja,show k+(hs.length+1)=k+1+hs.length by omega]; exact r3
theorem aAf (owner:Array (Option Nat)):(List.range owner.size).map (λj=>owner.getD j none)=owner.toList:=by
 apply Zn
 intro i
 rw [Qe]
 by_cases h:i < owner.size
 ·rw [Xe h,Array.getElem?_toList,Array.getElem?_eq_getElem h]
  simp [h]
 ·rw [Zg (by rw [Js]; omega),Zg (by rw [Array.length_toList]; omega)]; rfl
theorem aE1 (hm:mask=7∨mask=31) (fi mo:Nat) (L pl:Bool) (hs:Array Int) (hn:hs.size<=mask):∃ t order,SetTable.laid mask fi mo L pl hs=some (t,order)/\t.mask=mask/\t.dummies = #[]/\t.plain=pl/\t.led=L/\t.place.size=hs.size/\t.place.toList.Pairwise (· < ·)/\order.toList.Perm (List.range hs.size):=by
 obtain ⟨owner,e,hsz,hp⟩:=rH hm hs.toList (Array.replicate (mask+1) none) 0 (by rw [Array.size_replicate]) (by rw [Array.toList_replicate,List.filterMap_replicate_of_none rfl]; exact List.Perm.refl _) (by rw [Array.length_toList]; omega)
 rw [Qau,Array.length_toList] at e hp
 have ec:SetTable.layClean mask hs=some owner:=by
  have e2:SetTable.layClean mask hs=Option.map (λx=>x.1) (Array.foldl (vN mask) (some (Array.replicate (mask+1) none,0)) hs):=rfl
  rw [e2,<- Array.foldl_toList,e]; rfl
 have e1:SetTable.laid mask fi mo L pl hs=some ({ mask:=mask,place:=(((List.range (mask+1)).filterMap λj=>Option.map (λx=>(j,x)) (owner.getD j none)).map (·.1)).toArray,dummies:=#[],finger:=fi,led:=L,moves:=mo,plain:=pl },(((List.range (mask+1)).filterMap λj=>Option.map (λx=>(j,x)) (owner.getD j none)).map (·.2)).toArray):=by
  unfold SetTable.laid
  rw [ec]; rfl
 have eo:(((List.range (mask+1)).filterMap λj=>Option.map (λx=>(j,x)) (owner.getD j none)).map (·.2))=owner.toList.filterMap id:=by
  rw [Qal,<- aAf,Zv,hsz]
  congr 1
  funext j
  show Option.map _ (Option.map _ _)=owner.getD j none
  cases owner.getD j none <;> rfl
 refine ⟨_,_,e1,rfl,rfl,rfl,rfl,?_,?_,?_⟩
 ·show (List.toArray _).size=_
  rw [Ql,Qb]
  have:=congrArg Yk eo
  rw [Qb,hp.length_eq,Js] at this
  exact this
 ·show (List.toArray _).toList.Pairwise _
  rw [Yw,Qal]
  refine List.Pairwise.filterMap _ (λa a' h b hb b' hb'=>?_) Wu
  have k1:b=a:=by
   cases q:owner.getD a none with
   | none=>rw [q] at hb; cases hb
   | some z=>rw [q] at hb; exact (Option.some.inj hb).symm
  have k2:b'=a':=by
   cases q:owner.getD a' none with
   | none=>rw [q] at hb'; cases hb'
   | some z=>rw [q] at hb'; exact (Option.some.inj hb').symm
  rw [k1,k2]; exact h
 ·show (List.toArray _).toList.Perm _
  rw [Yw,eo]
  exact hp
theorem Tb.relay {t:SetTable} {es:Array (Int×Value)} (T:Tb L t es.size 5) (h5:es.size=5) :
  ∃ es' t',relayAll t es (SetTable.grown es.size)=(es',t',false)/\es'.toList.Perm es.toList/\Tb L t' es'.size 4:=by
 obtain ⟨t',order,e,h1,h2,h3,h4,h6,h7,h8⟩:=aE1 (mask:=31) (.inr rfl) t.finger (t.movedTo 31) t.led t.plain (es.map (·.1)) (by rw [Array.size_map]; omega)
 rw [Array.size_map] at h6 h8
 have er:t.relaid (es.map λx=>x.1) (SetTable.grown es.size)=some (t',order):=by
  unfold SetTable.relaid
  rw [h5]
  exact e
 have hfm:(Array.filterMap (λx=>es[x]?) order).toList.Perm es.toList:=by
  rw [Array.toList_filterMap]
  refine (h8.filterMap _).trans ?_
  have:(List.range es.size).filterMap (λx=>es[x]?)=es.toList:=by
   have:∀ (l:List (Int×Value)),(List.range l.length).filterMap (λx=>l[x]?)=l:=λl=>by
    have e0:(List.range l.length).map (λx=>l[x]?)=l.map some:=by
     apply Zn
     intro i
     rw [Qe,Qe]
     by_cases h:i < l.length
     ·rw [Xe h,Qc h]; simp [h]
     ·rw [Zg (by rw [Js]; omega),Zg (by omega)]; rfl
    have e1:(List.range l.length).filterMap (λx=>l[x]?)=((List.range l.length).map (λx=>l[x]?)).filterMap id:=by rw [Zv]; rfl
    rw [e1,e0,Zv]
    show l.filterMap (λx=>some x)=l
    exact List.filterMap_some
   have h:=this es.toList
   rw [Array.length_toList] at h
   simpa using h
  rw [this]
 have hz:(Array.filterMap (λx=>es[x]?) order).size=es.size:=by
  rw [<- Array.length_toList,hfm.length_eq,Array.length_toList]
 have T':Tb L t' (Array.filterMap (λx=>es[x]?) order).size 4:=⟨.inr ⟨h1,by omega⟩,h2,h3.trans T.plain,h4.trans T.led,by rw [hz]; exact h6,h7⟩
 refine ⟨Array.filterMap (λx=>es[x]?) order,t',?_,hfm,T'⟩
 unfold relayAll
 rw [er]
 dsimp only
 rw [show coversAll order es.size=true from List.isPerm_iff.mpr h8,T'.fits (by decide)]
 rfl
theorem Tb.full {t:SetTable} {n:Nat} (T:Tb L t n 5):(t.tooFull=true/\n=5)∨(t.tooFull=false/\Tb L t n 4):=by
 have e:t.tooFull=decide (n*5≥t.mask*3):=by
  unfold SetTable.tooFull SetTable.fill
  rw [T.size,T.dums]; rfl
 rw [e]
 rcases T.mask with ⟨a,b⟩ | ⟨a,b⟩
 ·by_cases h:n=5
  ·exact .inl ⟨decide_eq_true (by rw [a,h]; decide),h⟩
  ·exact .inr ⟨decide_eq_false (by omega),⟨.inl ⟨a,by omega⟩,T.dums,T.plain,T.led,T.size,T.rise⟩⟩
 ·exact .inr ⟨decide_eq_false (by omega),⟨.inr ⟨a,b⟩,T.dums,T.plain,T.led,T.size,T.rise⟩⟩
theorem aA8 (next:Nat->Nat):∀ (fuel k:Nat) (left:List α) (out:Array α),left.length<=fuel->(pickOrder.go next fuel k left out).toList.Perm (out.toList++left)
 | 0,k,left,out,h=>by
  have:left = []:=Jp.mp (by omega)
  subst this
  rw [Zk]; exact List.Perm.refl _
 | fuel+1,k,left,out,h=>by
  have e:pickOrder.go next (fuel+1) k left out=(match left[next k % left.length]? with
   | some x=>pickOrder.go next fuel (k+1) (left.eraseIdx (next k % left.length)) (out.push x)
   | none=>out):=rfl
  rw [e]
  cases q:left[next k % left.length]? with
  | none =>
   have hl:left.length=0:=by
    rcases Nat.eq_zero_or_pos left.length with z | z
    ·exact z
    ·have:=Qaq (next k) z
     rw [Qc this] at q; cases q
   rw [Jp.mp hl,Zk]
  | some x =>
   obtain ⟨hi,ex⟩:=Qd.mp q
   refine (aA8 next fuel (k+1) _ (out.push x) (by rw [List.length_eraseIdx_of_lt hi]; omega)).trans ?_
   rw [Array.toList_push,Ym]
   refine List.Perm.append_left _ ?_
   rw [List.eraseIdx_eq_take_drop_succ,Ww,<- ex]
   refine Wo.symm.trans ?_
   rw [Wr hi]
   first | done | rw [Zf]
theorem aCc (next:Nat->Nat) (xs:Array α):(pickOrder next xs).toList.Perm xs.toList:=by
 have:=aA8 next xs.size 0 xs.toList #[] (by rw [Array.length_toList]; exact Qh _)
 exact this
def ent (p:Int×Tok):Int×Value:=(hashInt p.1,.int p.1 p.2)
def SG (L:Bool) (h:Heap) (a:Addr) (ks:List (Int×Tok)):Prop:=∃ o ep es t,h.get? a=some o/\o.ExactSet/\o.data=.set es ep t/\es.toList.Perm (ks.map ent)/\Tb L t es.size 4
theorem SG.keep {l:List (Int×Tok)} (x:SG L h a l) (k:∀ o,h.get? a=some o->h'.get? a=some o):SG L h' a l:=by
 obtain ⟨o,ep,es,t,e,r⟩:=x
 exact ⟨o,ep,es,t,k o e,r⟩
theorem aCd (prog:Program) (w:World) {es:Array (Int×Value)} (h:es.toList.Perm (ks.map ent)):ElemsOf (intKind prog w) es.toList:=by
 intro e he
 obtain ⟨p,hp,rfl⟩:=Qw.mp (h.mem_iff.mp he)
 exact ⟨⟨p.1,My _ _ _ _,rfl⟩,rfl⟩
theorem aDB {k:Int} {t:Tok} {Q:Bool->Shared->Prop} (hS:SG L s.heap a ks) (hlen:ks.length<=17) (hQ:∀ h' b,Heap.SameBut a s.heap h'->((∃ p∈ks,p.1=k)->SG L h' a ks)->((∀ p∈ks,p.1≠k)->SG L h' a ((k,t)::ks))->Q b { s with heap:=h',toks:=s.toks+1 }) :
  wpAny (model prog w) A (setAdd a (.int k t)) Q E s:=by
 obtain ⟨o,ep,es,tb,ho,hex,hd,hp,T⟩:=hS
 unfold setAdd
 refine Rl (Ra ((intKind prog w).pyHash (k:=k) (My _ _ _ _) ?_))
 have hel:=aCd prog w hp
 have hsz:es.size=ks.length:=by rw [<- Array.length_toList,hp.length_eq,Qb]
 have hfit:=T.fits (by decide)
 have hscan:byScan (.int k t) es=true:=byScan_of (knd:=intKind prog w) rfl (by rw [hsz]; unfold scanBound; omega) hel
 unfold setAddHashed setAddHashedIn
 refine Rl (Ra (Tf (s:={ s with toks:=s.toks+1 }) ho hd hfit ?_))
 dsimp only
 rw [hscan]
 simp only [↓reduceIte]
 unfold setAddByScan
 refine Ra ?_
 refine Ra (Tu ?_)
 refine Ra (wpAny_setScan_of (knd:=intKind prog w) (k:=k) (My _ _ _ _) ho hd hfit hel ?_)
 cases hr:List.findIdx? (λe=>(intKind prog w).is k e.2) es.toList with
 | some j =>
  dsimp only
  obtain ⟨hj,hpj,_⟩:=List.findIdx?_eq_some_iff_getElem.mp hr
  have hthere:∃ p∈ks,p.1=k:=by
   obtain ⟨p,hp',e⟩:=Qw.mp (hp.mem_iff.mp (Xb hj))
   refine ⟨p,hp',?_⟩
   rw [<- e] at hpj
   obtain ⟨t',e2⟩:=Value.isInt_shape (show Value.isInt k (Value.int p.1 p.2)=true from hpj)
   injection e2
  refine Rb (Rb ?_)
  exact hQ s.heap false (Heap.SameBut.refl a s.heap) (λ_=>⟨o,ep,es,tb,ho,hex,hd,hp,T⟩) λhn=>by
   obtain ⟨p,hp,e⟩:=hthere
   exact absurd e (hn p hp)
 | none =>
  dsimp only
  have hno:∀ p∈ks,p.1≠k:=λp hp' e=>by
   have:=List.findIdx?_eq_none_iff.mp hr (ent p) (hp.mem_iff.mpr (Qw.mpr ⟨p,hp',rfl⟩))
   have h2:(intKind prog w).is k (Value.int k p.2)=true:=My _ _ _ _
   simp only [ent,e] at this
   rw [h2] at this
   cases this
  obtain ⟨es1,t1,e1,p1,T1,z1⟩:=T.lay (by omega) ((intKind prog w).hash k) (.int k t)
  have hpn:es1.toList.Perm (((k,t)::ks).map ent):=p1.trans (List.Perm.cons _ hp)
  rw [e1]
  dsimp only
  refine Ra (Rb ?_)
  rw [if_pos T1.plain,hashByValue_scannable 8 (x:=.int k t) rfl]
  refine Ra (Rb ?_)
  rw [if_pos (show plainKind (.int k t)=true from rfl)]
  refine Ra (RaF (s:={ s with toks:=s.toks+1 }) ho hd ?_ (by rw [z1,Rf]; omega))
  have g1:=Xc (Obj.putSet es1 t1) ho (by rw [Raf _ _ hd]; rfl)
  rw [Raf _ _ hd] at g1
  rcases T1.full with ⟨f1,f5⟩ | ⟨f1,T4⟩
  ·rw [f1]
   obtain ⟨es2,t2,e2,p2,T2⟩:=T1.relay f5
   rw [e2]
   simp only [Bool.not_false,Bool.and_true,if_true]
   refine Ra (Rb ?_)
   have z2:es2.size=es1.size:=by rw [<- Array.length_toList,p2.length_eq,Array.length_toList]
   refine Ra (RaF (s:={ s with heap:=s.heap.update a (Obj.putSet es1 t1),toks:=s.toks+1 }) g1 rfl ?_ (by rw [z2,z1,Rf]; omega))
   have g2:=Xc (Obj.putSet es2 t2) g1 (by rw [Raf _ _ rfl]; rfl)
   rw [Raf _ _ rfl] at g2
   refine Rb (Rb ?_)
   exact hQ ((s.heap.update a (Obj.putSet es1 t1)).update a (Obj.putSet es2 t2)) true ((Heap.SameBut.update _ _ _).trans (Heap.SameBut.update _ _ _)) (λ⟨p,hp,e⟩=>absurd e (hno p hp)) λ_=>⟨_,_,es2,t2,g2,hex,rfl,p2.trans hpn,T2⟩
  ·rw [f1]
   simp only [Bool.not_false,Bool.and_false,Jg,if_false]
   refine Rb (Rb ?_)
   exact hQ (s.heap.update a (Obj.putSet es1 t1)) true (Heap.SameBut.update _ _ _) (λ⟨p,hp,e⟩=>absurd e (hno p hp)) λ_=>⟨_,_,es1,t1,g1,hex,rfl,hpn,T4⟩
structure KsOf (ks:List (Int×Tok)) (ns:List Int):Prop where
 nd:(ks.map (·.1)).Nodup
 mem:∀ k,k∈ks.map (·.1)↔k∈ns
 len:ks.length<=ns.length
def qG (w:World) (S:Addr) (ep:Nat) (es:Array (Int×Value)):Array (Int×Value):=if w.params.followText "set-order" then pickOrder (w.params.setOrder S ep) es else es
def iF (w:World) (t:SetTable) (i:Nat):Nat:=if w.params.followText "set-order" then 0 else mO t.place i
theorem pB (w:World) (S:Addr) (ep:Nat) (es:Array (Int×Value)):(qG w S ep es).toList.Perm es.toList:=by
 unfold qG
 split
 ·exact aCc _ _
 ·exact List.Perm.refl _
theorem pC (w:World) (S:Addr) (ep:Nat) (es:Array (Int×Value)):(qG w S ep es).size=es.size:=by
 rw [<- Array.length_toList,(pB w S ep es).length_eq,Array.length_toList]
section
variable {S:Addr} {es:Array (Int×Value)} {t:SetTable}
theorem pX {i:Nat} {Q:Option (Value×Nat)->Shared->Prop} (T:Tb (Led w) t es.size 4) (ho:s.heap.get? S=some o) (hd:o.data=.set es ep t) (hi:i<=es.size)
  (h:Q (((qG w S ep es)[i]?).map λe=>(e.2,iF w t (i+1))) s):wpAny (model prog w) A (setNext S (iF w t i) i ep) Q E s:=by
 have hfit:=T.fits (by decide)
 unfold setNext
 refine Ra (Tf ho hd hfit ?_)
 dsimp only
 refine Ra (oV ?_)
 cases hb:w.params.followText "set-order" with
 | true =>
  have e1:qG w S ep es=pickOrder (w.params.setOrder S ep) es:=by unfold qG; rw [hb]; rfl
  have e2:∀ i,iF w t i=0:=λi=>by unfold iF; rw [hb]; rfl
  rw [e1,e2] at h
  rw [e2]
  simp only [if_true,bne_self_eq_false,Jg,if_false]
  refine Ra ?_
  unfold setWalk
  refine Ra (Tf ho hd hfit ?_)
  dsimp only
  refine Ra (oV ?_)
  rw [hb]
  simp only [if_true]
  refine Ra (Vb (Rb (Rb h)))
 | false =>
  have e1:qG w S ep es=es:=by unfold qG; rw [hb]; rfl
  have e2:∀ i,iF w t i=mO t.place i:=λi=>by unfold iF; rw [hb]; rfl
  have eL:t.led=true:=by rw [T.led]; unfold Led; rw [hb]; rfl
  rw [e1,e2] at h
  rw [e2]
  simp only [Jg,if_false]
  have hbl:=aAd T.rise (i:=i) (by rw [T.size]; exact hi)
  refine To (λhab=>absurd (show (!t.plain && decide (es.size > 1))=true from hab) (by rw [T.plain]; simp)) (λ_=>?_)
  refine Ra ?_
  show wpAny _ _ (if (!t.led && !es.isEmpty)=true then unsupported "set:maker-not-led" else pure ()) _ _ _
  rw [eL]
  refine Rb (Rb ?_)
  rw [hbl]
  cases q:es[i]? with
  | none=>rw [q] at h; exact h
  | some p =>
   rw [q] at h
   have hlt:i < t.place.size:=by rw [T.size]; exact (Array.getElem?_eq_some_iff.mp q).1
   rw [Array.getElem?_eq_getElem hlt]
   have e5:mO t.place (i+1)=t.place[i]+1:=by
    unfold mO
    rw [if_neg (by omega),Nat.add_sub_cancel,Array.getElem?_eq_getElem hlt]
    rfl
   rw [e5] at h
   exact h
def nN (w:World) (h:Heap) (I S:Addr) (t:SetTable) (n ep i:Nat):Prop :=
 h.get? I=some { cls:=.type "set_iterator",data:=.fields #[rawInt (iF w t i:Nat),rawInt (i:Nat),.ref S,rawInt (n:Nat),rawInt (ep:Nat)] }
theorem aCe (hh:A.handled=none) (I S:Addr) (hne:S≠I) (o:Obj) (ep:Nat) (es:Array (Int×Value)) (t:SetTable) (T:Tb (Led w) t es.size 4) (hd:o.data=.set es ep t) :
  Walks prog w A I [I,S] [I] es.size (λi v=>∃ k,(qG w S ep es)[i]?=some (k,v)) (λi h=>nN w h I S t es.size ep i/\h.get? S=some o) where
 sub:=λb hb=>by simp at hb; simp [hb]
 frame:=λ_ _ _ st hk=>⟨hk I (by simp) _ st.1,hk S (by simp) _ st.2⟩
 item:=λi s Q E hi st hQ=>by
  obtain ⟨hit,hS⟩:=st
  have hT:s.TypeIs (.ref I) "set_iterator" := ⟨_,hit,rfl⟩
  unfold pyNext
  refine Ra (Rx (Rh (name:=Str.ofString "__next__") hT bS
   (Rj bS hT fY ?_ (eX _))))
  unfold Builtin.«set_iterator.__next__» slotArgs
  simp only [Ys,Qam,Jg,↓reduceIte,Yh,bne_self_eq_false]
  refine Ra (Rb ?_)
  dsimp only
  refine Ra (Td hit rfl ?_)
  show wpAny _ _ (setEntries S >>= _) _ _ s
  refine Ra (Ra (Tf hS hd (T.fits (by decide)) (Rb ?_)))
  dsimp only
  refine To (λhab=>absurd hab (by simp)) (λ_=>?_)
  show wpAny _ _ (setNext S (iF w t i:Int).toNat (i:Int).toNat (ep:Int).toNat >>= _) _ _ s
  rw [Jj,Jj,Jj]
  refine Ra (pX T hS hd (by omega) ?_)
  obtain ⟨⟨k,v⟩,hkv⟩:∃ e,(qG w S ep es)[i]?=some e:=⟨_,Array.getElem?_eq_getElem (by rw [pC]; exact hi)⟩
  rw [hkv]
  show wpAny _ _ (setField (Value.ref I) 0 (rawInt ↑(iF w t (i+1))) >>= _) _ _ s
  refine Ra (Rg hit (by show 0 < 5; decide) λh1 g1 sb1=>?_)
  refine Ra (Rg g1 (by show 1 < 5; decide) λh2 g2 sb2=>?_)
  refine Rb ⟨v,rfl,Rb ?_⟩
  refine hQ v h2 s.toks ⟨k,hkv⟩ ⟨?_,(sb2.2 S hne).trans ((sb1.2 S hne).trans hS)⟩ λb ob hb e=>?_
  ·unfold nN
   rw [g2]
   congr 1
  ·have hb':b≠I:=by simpa using hb
   exact (sb2.2 b hb').trans ((sb1.2 b hb').trans e)
 done:=λs Q E st hQ=>by
  obtain ⟨hit,hS⟩:=st
  have hT:s.TypeIs (.ref I) "set_iterator" := ⟨_,hit,rfl⟩
  unfold pyNext
  refine Ra (Rx (Rh (name:=Str.ofString "__next__") hT bS
   (Rj bS hT fY ?_ (eX _))))
  unfold Builtin.«set_iterator.__next__» slotArgs
  simp only [Ys,Qam,Jg,↓reduceIte,Yh,bne_self_eq_false]
  refine Ra (Rb ?_)
  dsimp only
  refine Ra (Td hit rfl ?_)
  show wpAny _ _ (setEntries S >>= _) _ _ s
  refine Ra (Ra (Tf hS hd (T.fits (by decide)) (Rb ?_)))
  dsimp only
  refine To (λhab=>absurd hab (by simp)) (λ_=>?_)
  show wpAny _ _ (setNext S (iF w t es.size:Int).toNat (es.size:Int).toNat (ep:Int).toNat >>= _) _ _ s
  rw [Jj,Jj,Jj]
  refine Ra (pX T hS hd (Qh _) ?_)
  have hkv:(qG w S ep es)[es.size]?=none:=by rw [Array.getElem?_eq_none]; rw [pC]; exact Qh _
  rw [hkv]
  show wpAny _ _ (setField (Value.ref I) 2 Value.none >>= _) _ _ s
  refine Ra (Rg hit (by show 2 < 5; decide) λh1 g1 sb1=>?_)
  show wpAny _ _ (newExc (.type "StopIteration") [] >>= _) _ _ _
  refine Ra ?_
  simp only [newExc,newTuple]
  refine Ra (Rk ?_ (by size_fits))
  refine Ra (m:=firstArgMember _ _) (Vl (a:=Value.none) (by first | rfl | (simp only [firstArgMember]; rfl)) ?_)
  refine Rk ?_ (by size_fits)
  simp only [raiseNew]
  refine Ra (Ih ?_)
  first | rw [show A.in1.handled=none from hh] | rw [hh]
  refine Ra (Rb (Ml ?_))
  refine Ra (Tx (T := "StopIteration") (b:=true) ⟨_,Qg _ rfl,rfl⟩ Ux ?_)
  refine Rb (hQ _ s.toks λb ob hb e=>?_)
  have hb':b≠I:=by simpa using hb
  exact Qa _ (Qa _ ((sb1.2 b hb').trans e))
 self:=λi s Q E st h=>by
  obtain ⟨hit,hS⟩:=st
  have hT:s.TypeIs (.ref I) "set_iterator" := ⟨_,hit,rfl⟩
  refine Vn hT gD (Rj gD hT jR ?_ (jK _))
  show wpAny _ _ (ret (.ref I)) _ _ s
  exact Rb ⟨_,rfl, "set_iterator",_,hT,bS.lookup,h⟩
theorem yA (T:Tb (Led w) t es.size 4) (ho:s.heap.get? S=some o) (hex:o.ExactSet) (hd:o.data=.set es ep t) (h:Q (.ref s.heap.objs.size) { s with heap:=s.heap.push { cls:=.type "set_iterator",data:=.fields #[rawInt (iF w t 0:Nat),rawInt ((0:Nat):Int),.ref S,rawInt (es.size:Nat),rawInt (ep:Nat)] } }):wpAny (model prog w) A (pyIter (.ref S)) Q E s:=by
 have hT:s.TypeIs (.ref S) "set" := ⟨o,ho,hex.1⟩
 refine Vn hT Mq (Rj Mq hT rB ?_ (PySem.F.args_set_iter_1 _))
 unfold Builtin.«frozenset.__iter__» Builtin.Frozenset.slot0 slotArgs
 simp only [Ys,Qam,Jg,↓reduceIte,bind_assoc,Yh,bne_self_eq_false]
 refine Ra (Rb ?_)
 dsimp only
 refine Ra (m:=Builtin.Frozenset.addrOf (.ref S)) (Rb ?_)
 unfold Builtin.Frozenset.sizeOf setEntries
 refine Ra (Ra (Ra (Tf ho hd (T.fits (by decide)) (Rb (Rb ?_)))))
 dsimp only
 unfold setDrawn
 refine Ra (Ra (Tf ho hd (T.fits (by decide)) (Ra (oV (Rb ?_)))))
 have hb:∀ b:Bool,(!b && false)=false:=by decide
 refine To (λhab=>absurd (show (!(w.params.followText "set-order") && (!t.plain && decide (es.size > 1)))=true from hab) (by rw [T.plain]; rw [show (!true && decide (es.size > 1))=false from rfl,hb]; decide)) (λ_=>?_)
 refine Ra (Rb ?_)
 unfold setEpoch
 refine Ra (Ra (Tf ho hd (T.fits (by decide)) (Rb ?_)))
 dsimp only
 have e0:iF w t 0=0:=by unfold iF mO; split <;> rfl
 refine Ra (Rk (Rb ⟨_,rfl, "set_iterator",_,⟨_,Qg _ rfl,rfl⟩,bS.lookup,?_⟩))
 rw [e0] at h
 exact h
theorem aCf {Q:Bool->Shared->Prop} (T:Tb (Led w) t es.size 4) (ho:s.heap.get? S=some o) (hex:o.ExactSet) (hd:o.data=.set es ep t)
  (h:∀ b,Q b s):wpAny (model prog w) A (Builtin.List.listLengthHint (.ref S)) Q E s:=by
 have hT:s.TypeIs (.ref S) "set" := ⟨o,ho,hex.1⟩
 unfold Builtin.List.listLengthHint
 refine Ra (RaU hT PySem.F.slot_set_len.lookup ?_)
 generalize hid:("set.__len__" : String)=id0
 wp_delta
 rw [show splitId id0=some ("set", "__len__") from by subst hid; decide +kernel]
 subst hid
 refine Ra (Tx (T := "set") (b:=true) hT (by rw [Mw]; kernel_rfl) ?_)
 refine To (λhab=>absurd hab (by decide)) (λ_=>?_)
 refine To (λ_=>?_) (λhab=>absurd (by decide +kernel) hab)
 refine Ra (Vh hT ?_)
 exact Rb (h false)
theorem vO {Q:List Value->Shared->Prop} (hh:A.handled=none) (T:Tb (Led w) t es.size 4) (ho:s.heap.get? S=some o) (hex:o.ExactSet) (hd:o.data=.set es ep t)
  (h:∀ h' tk vs,(∀ b o,s.heap.get? b=some o->h'.get? b=some o)->vs=(qG w S ep es).toList.map (·.2)->Q vs { s with heap:=h',toks:=tk }):wpAny (model prog w) A (collect (.ref S)) Q E s:=by
 refine qZ λR hR=>?_
 generalize hD:s.heap.objs.size=D at *
 have hSD : @LT.lt Nat instLTNat S D:=by rw [<- hD]; exact Qm ho
 generalize hH0:s.heap.push { cls:=.type "list",data:=.seq ([]:List Value).toArray }=H0
 have szH0:H0.objs.size=D+1:=by rw [<- hH0,Jk,hD]
 have ho':H0.get? S=some o:=by rw [<- hH0]; exact Qa _ ho
 have hDl:H0.get? D=some { cls:=.type "list",data:=.seq #[] 0 }:=by rw [<- hH0,<- hD]; exact Qg _ rfl
 have old0:∀ b ob,s.heap.get? b=some ob->H0.get? b=some ob:=λb ob e=>by rw [<- hH0]; exact Qa _ e
 unfold Builtin.List.listExtendWith
 refine Ra (Vh (T := "set") ⟨o,ho',hex.1⟩ ?_)
 have h1:Builtin.List.listSameRef (.ref D) (.ref S)=false:=by simp [Builtin.List.listSameRef]; exact Xm hSD
 have h2:(Value.type "set" == Value.type "list")=false:=by decide
 have h3:(Value.type "set" == Value.type "tuple")=false:=by decide
 simp only [h1,h2,h3,Bool.or_false,Jg,if_false]
 refine Ra (yA (s:={ s with heap:=H0 }) T ho' hex hd ?_)
 generalize hI:H0.objs.size=I at *
 have W:=(aCe (prog:=prog) (w:=w) (A:=A.in1) hh I S (Qz (by omega)) o ep es t T hd).toS
 have key:∀ (hp:Heap) (c tk:Nat),nN w hp I S t es.size ep 0->hp.get? S=some o->(∀ b ob,b≠D->H0.get? b=some ob->hp.get? b=some ob)->hp.get? D=some { cls:=.type "list",data:=.seq #[] c } ->
   codeAny (model prog w) A (.builtin "list.extend.loop" ⟨[.ref D,.ref I,.ref D],[]⟩) R { s with heap:=hp,toks:=tk }:=by
  intro hp c tk hit hS hk hDl'
  refine codeAny_extend_loopS W (by rw [Rf]; rcases T.mask with ⟨_,b⟩ | ⟨_,b⟩ <;> omega) D (by
   simp only [Qn,Qo,Qs,or_false,not_or]
   exact ⟨Qz (by omega),Xm hSD⟩) (.ref D) es.size 0 _ #[] c rfl (Jr _) ⟨hit,hS⟩ hDl' (ItemsOf.nil _) λs' acc' c' hm hS' hacc=>?_
  rw [Moved.eq_with hm]
  refine hR { s with heap:=s'.heap,toks:=s'.toks } acc' c' hS' (h s'.heap s'.toks acc'.toList (λb ob e=>hm.heap b ob (λhmem=>?_) (hk b ob ?_ (old0 b ob e))) ?_)
  ·have hb : @LT.lt Nat instLTNat b D:=by rw [<- hD]; exact Qm e
   rcases Qn.mp hmem with z | z
   ·exact absurd z (Qz hb)
   ·have z':b=I:=by simpa using z
    exact absurd z' (Qz (by omega))
  ·have hb : @LT.lt Nat instLTNat b D:=by rw [<- hD]; exact Qm e
   exact Qz hb
  ·obtain ⟨hs,hi⟩:=hacc
   apply Zn
   intro j
   rw [Qe,Array.getElem?_toList,Array.getElem?_toList]
   cases e:acc'[j]? with
   | none =>
    have hj:es.size<=j:=by
     rw [<- hs]
     exact Array.getElem?_eq_none_iff.mp e
    rw [Array.getElem?_eq_none (by rw [pC]; exact hj)]
    rfl
   | some v =>
    obtain ⟨k,hk⟩:=hi j v e
    rw [hk]
    rfl
 have hit0:nN w (H0.push { cls:=.type "set_iterator",data:=.fields #[rawInt (iF w t 0:Nat),rawInt ((0:Nat):Int),.ref S,rawInt (es.size:Nat),rawInt (ep:Nat)] }) I S t es.size ep 0:=by
  rw [<- hI]; exact Qg _ rfl
 have hD1:=Qa { cls:=.type "set_iterator",data:=.fields #[rawInt (iF w t 0:Nat),rawInt ((0:Nat):Int),.ref S,rawInt (es.size:Nat),rawInt (ep:Nat)] } hDl
 refine Ra (Rl (aCf (s:={ s with heap:=H0.push { cls:=.type "set_iterator",data:=.fields #[rawInt (iF w t 0:Nat),rawInt ((0:Nat):Int),.ref S,rawInt (es.size:Nat),rawInt (ep:Nat)] } }) T (Qa _ ho') hex hd λbb=>?_))
 have DI:D≠I:=Qz (by omega)
 refine To (λ_=>?_) (λ_=>Rb ⟨Tt Iv _,key _ 0 _ hit0 (Qa _ ho') (λb ob _ e=>Qa _ e) hD1⟩)
 refine Ra (Tu ?_)
 refine Ra ?_
 show wpAny _ _ (updateSeq D (·.push .none) >>= λ_=>updateSeq D (·.pop)) _ _ _
 refine Ra (Vg hD1 rfl ?_)
 have hS2x:=Xc (Obj.mapSeq (·.push Value.none)) hD1 rfl
 refine Vg (hz:=by seq_fits) hS2x rfl ?_
 have hS3x:=Xc (Obj.mapSeq (·.pop)) hS2x rfl
 refine Rb ⟨Tt Iv _,key _ _ _ ?_ ?_ (λb ob hb e=>?_) hS3x⟩
 ·exact (Jm _ _ DI).trans ((Jm _ _ DI).trans hit0)
 ·exact (Jm _ _ (Xm hSD)).trans ((Jm _ _ (Xm hSD)).trans (Qa _ ho'))
 ·exact (Jm _ _ (Ne.symm hb)).trans ((Jm _ _ (Ne.symm hb)).trans (Qa _ e))
end
def nO (out ns:List Int):Prop:=out.Pairwise (· < ·)/\∀ k,k∈out↔k∈ns
def vP (w:World) (p:Addr) (ns:List Int):HO:=.ext λh=>∃ ks,SG (Led w) h p ks/\KsOf ks ns
theorem tZ:∀ {l:List (Int×Value)} {ks:List (Int×Tok)},l=ks.map ent->IntsAre (l.map (·.2)) (ks.map (·.1))
 | _,[],rfl=>.nil
 | _,p::ks,rfl=>.cons _ p.2 (tZ rfl)
theorem aCg:∀ {l l':List (Int×Value)},l.Perm l'->(∀ e∈l',∃ p,e=ent p)->∃ ks:List (Int×Tok),l=ks.map ent:=λ{l l'} h q=>by
 have q':∀ e∈l,∃ p,e=ent p:=λe he=>q e (h.mem_iff.mp he)
 clear h q
 induction l with
 | nil=>exact ⟨[],rfl⟩
 | cons e r ih =>
  obtain ⟨p,rfl⟩:=q' e (Qj ..)
  obtain ⟨ks,rfl⟩:=ih λy hy=>q' y (Qk _ hy)
  exact ⟨p::ks,rfl⟩
theorem aDC {ks':List (Int×Tok)} (h:(ks.map ent).Perm (ks'.map ent)):(ks.map (·.1)).Perm (ks'.map (·.1)):=by
 have e:∀ l:List (Int×Tok),l.map (·.1)=(l.map ent).map λe=>match e.2 with | .int k _=>k | _=>0:=λl=>by rw [Jo]; rfl
 rw [e,e]
 exact h.map _
theorem rJ (hc:X.calm=true):dM X (.builtin "sorted") (λxs H Q=>∃ (p:Addr) (ns:List Int),xs = [.ref p]/\H p=some (vP X.w p ns)/\ns.length<=18/\∀ q out,nO out ns->H q=none->Q (.ref q) (upd H q (.lst (out.map V.int)))):=by
 intro pins s σ H xs us Q I r h
 obtain ⟨p,ns,rfl,hp,hn,q⟩:=h
 obtain ⟨u,rfl,rx⟩:=fX r
 cases rx
 obtain ⟨⟨ks,⟨o,ep,es,t,ho,hex,hd,hpm,T⟩,hk⟩,_,_⟩:=I.hok p _ hp
 obtain ⟨ks',e'⟩:=aCg ((pB X.w p ep es).trans hpm) λe he=>by
  obtain ⟨y,_,rfl⟩:=Qw.mp he
  exact ⟨y,rfl⟩
 have hkk:(ks'.map (·.1)).Perm (ks.map (·.1)):=aDC (by rw [<- e']; exact (pB X.w p ep es).trans hpm)
 have hl12:=hk.len
 have hlen:(ks'.map (·.1)).length<=18:=by rw [hkk.length_eq,Qb]; omega
 refine tV (ns:=ks'.map (·.1)) (by omega) (λQ' hQ'=>?_) λh1 h' tk out ns' k1 k2 pl hi' hp' ho'=>?_
 ·exact vO (A:=X.A.in1) (I.ok.hd hc) T ho hex hd λh' tk vs kp e=>hQ' h' tk vs kp (by rw [e]; exact tZ e')
 ·have I1:Inv X pins σ H { s with heap:=h1,toks:=tk }:=I.kept k1
  have hf:=I1.hok.fresh (Qh _)
  have hpp:=hp'.trans hkk
  have hs:nO ns' ns:=by
   refine ⟨?_,λk=>hpp.mem_iff.trans (hk.mem k)⟩
   have nd:ns'.Nodup:=hpp.nodup_iff.mpr hk.nd
   exact (List.Pairwise.and ho' nd).imp λ⟨a,b⟩=>by omega
  have hl2:ns'.length<=18:=by rw [hp'.length_eq]; exact hlen
  obtain ⟨n,e⟩:=pl
  have I2:Inv X pins σ (upd H h1.objs.size (.lst (ns'.map V.int))) { s with heap:=h',toks:=tk } :=
   I1.laid (t':=tk) k2 (Qh _) (show bN X.prog X.w _ _ _ (.lst _) from ⟨by rw [Qb,Rf]; omega,out.toList,n,jP hi',by simpa using e⟩)
  exact ⟨.ref h1.objs.size,_,I2,rfl,q _ _ hs hf⟩
theorem nQ (hc:X.calm=true):dM X (.builtin "sorted") (λxs H Q=>∃ (p:Addr) (ns:List Int),xs = [.ref p]/\H p=some (vP X.w p ns)/\ns.length<=12/\∀ q out,nO out ns->H q=none->Q (.ref q) (upd H q (.lst (out.map V.int)))):=by
 intro pins s σ H xs us Q I r h
 obtain ⟨p,ns,e,hL,hn,q⟩:=h
 exact rJ hc pins s σ H xs us Q I r ⟨p,ns,e,hL,by omega,q⟩
open PySem.AutoSeq1 (wpAny_loadPart')
theorem tG (l:Addr) (items:Array Value) (n:Nat) (dd:Option Addr) (sl:Array (Option Value)) (u:Tok) :
  Meets (Builtin.«tuple.__mul__» ⟨[.ref l,.int 1 u],[]⟩) (λ_ R s=>s.heap.get? l=some { cls:=.type "tuple",dict:=dd,data:=.seq items n,slots:=sl }/\R (.ok (.ret (Value.ref l))) s) :=
 .of_wp λprog w A R s h=>by
  obtain ⟨hp,g,d,tk,os⟩:=s
  obtain ⟨hl,h⟩:=h
  have f1:=AutoSeq1.idx_int
  have f2:=AutoSeq1.sub_tuple_tuple
  wp_walk using Rr hl
  exact ⟨_,rfl,h⟩
structure Zip3Apart (z TI TO i1 i2 i3 l1 l2 l3:Addr):Prop where
 TIz:TI≠z
 TOz:TO≠z
 i1z:i1≠z
 i2z:i2≠z
 i3z:i3≠z
 TITO:TI≠TO
 TIi1:TI≠i1
 TIi2:TI≠i2
 TIi3:TI≠i3
 TOi1:TO≠i1
 TOi2:TO≠i2
 TOi3:TO≠i3
 i12:i1≠i2
 i13:i1≠i3
 i23:i2≠i3
 l1:∀ c∈[z,TO,i1,i2,i3],l1≠c
 l2:∀ c∈[z,TO,i1,i2,i3],l2≠c
 l3:∀ c∈[z,TO,i1,i2,i3],l3≠c
section
variable {z TI TO i3 l3:Addr} {n n3:Nat} {P3:Nat->Value->Prop} {st3:Nat->Heap->Prop}
end
section
variable (k1 k2 k3:Sk) (h:Heap) (a b d:Addr)
end
section
variable {own:Nat} {fr:List Nat} {σ:St}
theorem aCh (SH:St->Prop) (hn:zs.length<=1000) (hle:zs.length<=xs.length) (hl:vs.length=zs.length) (ha:∀ H',aD H H'->SqK k1 K H' a xs/\SqK k2 K H' b zs) (hσ:SH (blk own fr σ)) (hs:∀ (i:Nat) x z v p σ H1,xs[i]?=some x->zs[i]?=some z->vs[i]?=some v->H1 p=none->SH σ->aD H H1->∀ Q:V->St->Hp->Prop,(∀ σ2 H4,SH σ2->aD H1 H4->Q v σ2 H4)->g (.ref p) σ (upd H1 p (.tup [x,z])) λσ2 H2=>te σ2 H2 λy H4=>Q y σ2 H4) (hd:∀ H',aD H H'->Qf H' vs) :
  Wlk (Itz K k1 k2 a b) [] (blk own fr σ) H (λys _ H=>Qf H ys) g sS (tbL te):=by
 refine qJ SH hn hl hσ (λH' s=>⟨xs,zs,(ha H' s).1,(ha H' s).2,by omega⟩) (λi H' hi s=>⟨xs,zs,xs[i]'(by omega),zs[i],(ha H' s).1,(ha H' s).2,Qc (by omega),Qc hi⟩) (λi v x σ H1 H2 hi hv sh s y Q k=>?_) hd
 obtain ⟨q,hq,rfl,hy⟩:=y
 obtain ⟨x,z,h1,h2,rfl⟩:=hy xs zs (ha H1 s).1 (ha H1 s).2
 exact hs i x z v q σ H1 h1 h2 hv hq sh s Q k
end
def tbD (P:α->V->V->Hp->(α->Hp->Prop)->Prop) (tk tv:TE) (ys:α) (σ:St) (H:Hp) (R:α->St->Hp->Prop):Prop:=tk σ H λx H4=>tv σ H4 λy H5=>P ys x y H5 λa H=>R a σ H
def bdD (kx vx:Expr) (env:Env) (D:Addr):Sem Unit:=do
 let kv<-eval kx env
 let vv<-holding [kv] (eval vx env)
 standAt { kx.pos with endLine:=vx.pos.endLine,endCol:=vx.pos.endCol }
 holding [kv,vv] (dictSet D kv vv)
section
variable {a0:α} {Ok:Addr->α->Heap->Prop}
theorem aHq:LoopOk P w A (.DictComp kx vx [⟨tg,iter,ifs,0⟩] scope pos) 0 tg iter ifs (bdD kx vx) where
 und:=λ_ _ _=>⟨rfl,rfl⟩
 turn:=λit D env=>compTurn_dict kx vx tg iter ifs scope pos it D env
 start:=codeAny_compStart_dict
theorem aHr {p:α->V->V->Hp->(α->Hp->Prop)->Prop} (AO:AccOk Y.prog Y.w Y.A newDict a0 Ok) (hk:PE Y kx tk) (he:PE Y vx tv) (st:∀ {D:Addr} {a:α} {s:Shared} {H:Hp} {x y:V} {kv vv:Value} {R:α->Hp->Prop},HOk Y.prog Y.w H s.heap->Ok D a s.heap->bQ x kv->bQ y vv->p a x y H R->wpAny (model Y.prog Y.w) Y.A (dictSet D kv vv) (λ_ s'=>∃ h' tk a',s'={ s with heap:=h',toks:=tk }/\Heap.SameBut D s.heap h'/\Ok D a' h'/\R a' H) Y.xe s) :
  lF Y (bdD kx vx) Ok (tbD p tk tv):=by
 intro ps s σ H D o ys R dn I pl h
 refine Ra (thn (hk _ s σ H _ I h) λkv s1 hx=>?_)
 obtain ⟨xv,H1,I1,r1,q1⟩:=hx
 refine Ra (Rl (thn (he _ s1 σ H1 _ I1 q1) λvv s2 hx=>?_))
 obtain ⟨yv,H2,I2,r2,q2⟩:=hx
 refine Ra (Tg (Rl (thn (st I2.hok (AO.stay I I2 pl) r1 r2 q2) λ_ s3 hx=>?_)))
 obtain ⟨h',tk,a',rfl,sb,ok,r⟩:=hx
 obtain ⟨o',I'⟩:=dn.put (t:=tk) AO I2 sb ok
 exact ⟨σ,H2,a',o',I',ok,r⟩
end
def aHs:Obj:={ cls:=.type "dict",dict:=none,data:=.dict #[] }
section
variable {fr:List Nat} {wi:TI}
end
def tUp (t:TE):TE:=λσ H Q=>∃ P:V->Hp->Prop,t σ H P/\∀ x H1,P x H1->Q x H1
section
variable {fr:List Nat} {d:Expr} {t:TE}
theorem aFO (h:PE X e t):PE X e (tUp t):=by
 intro pins s σ H Q I q
 obtain ⟨P,h1,h2⟩:=q
 refine thn (h pins s σ H P I h1) λv s1 hx=>?_
 obtain ⟨x,H1,I1,r1,q1⟩:=hx
 exact ⟨x,H1,I1,r1,h2 _ _ q1⟩
end
section
variable {d:Addr} {i:Nat} {es:Array DictEntry}
theorem aDD (hs:(d==sysModules)=false) (g:s.heap.get? d=some ob) (gx:ob.ExactDict) (gd:ob.data=.dict es ep) (k:Q (.ref s.heap.objs.size) { s with heap:=s.heap.push { cls:=.type "dict_keyiterator",data:=.fields #[.ref d,.int 0 0,.int es.size 0,.int ep 0] } }):wpAny (model P w) A (pyIter (.ref d)) Q E s:=by
 have ty:s.TypeIs (.ref d) "dict" := ⟨ob,g,gx.1⟩
 refine Vn ty F.slot_dict_iter (Rj F.slot_dict_iter ty F.entry_dict_iter ?_ (F.args_dict_iter_1 _))
 unfold Builtin.«dict.__iter__»
 refine Ra ?_
 unfold Builtin.Dict.dictSlotNone
 refine Ra (Ram ty (Rb ?_))
 show wpAny _ _ (Builtin.Dict.showsAll d >>= _) _ _ s
 unfold Builtin.Dict.showsAll
 rw [if_neg (show ¬ (d==sysModules)=true by rw [hs]; decide)]
 refine Ra (Rb (Ra (Ui g gd (Ra (Uu g gd ?_)))))
 exact Ra (Rk (Rb ⟨_,rfl, "dict_keyiterator",_,⟨_,Qg _ rfl,rfl⟩,F.slot_dict_keyiterator_next.lookup,by simpa [rawInt] using k⟩))
theorem aDE {Q:Option Value->Shared->Prop} (st:s.heap.IsKeyIter it d i es.size ep) (g:s.heap.get? d=some ob) (gd:ob.data=.dict es ep) (lt:i < es.size)
  (k:∀ h',h'.IsKeyIter it d (i+1) es.size ep->Heap.SameBut it s.heap h'->Q (some es[i].key) { s with heap:=h' }):wpAny (model P w) A (pyNext (.ref it)) Q E s:=by
 obtain ⟨oi,gi,ci,di⟩:=id st
 unfold pyNext
 refine Ra (Rx (Rh (name:=Str.ofString "__next__") st.typeIs F.slot_dict_keyiterator_next (Rj F.slot_dict_keyiterator_next st.typeIs F.entry_dict_keyiterator_next ?_ (F.args_dict_keyiterator_next_1 _))))
 refine Ra (Rb (Ra (Ra ?_)))
 first
  | refine Ra (Ua st.typeIs (Rb (Ra (Td gi di ?_))))
  | refine Ra (Us st.typeIs (Rb (Ra (Td gi di ?_))))
 simp only [show Builtin.Dict_items.ownsTuple "dict_keyiterator" = false by decide,Jg,if_false]
 show wpAny _ _ (if (Value.ref d==Value.none)=true then _ else _) _ _ s
 rw [if_neg (λz:(Value.ref d==Value.none)=true=>Qr z)]
 refine Ra (Rb (Ra (Ui g gd ?_)))
 rw [if_neg (by simp)]
 refine Ra (Rb (Ra (Uu g gd ?_)))
 rw [if_neg (by simp)]
 refine Rb ?_
 simp only [show ¬ ((i:Int) < 0) from by omega,if_false,Jj,Array.getElem?_eq_getElem lt]
 refine Ra ?_
 first
  | refine Ra (Ua st.typeIs (Rb (Ra (Vx st.typeIs ?_))))
  | refine Ra (Us st.typeIs (Rb (Ra (Vx st.typeIs ?_))))
 show wpAny _ _ (setField (.ref it) 1 (rawInt ((i:Int)+1)) >>= _) _ _ s
 refine Ra (Uw gi di (by simp) ?_)
 have st2:(s.heap.update it (Obj.mapFields (·.setIfInBounds 1 (rawInt ((i:Int)+1))))).IsKeyIter it d (i+1) es.size ep :=
  ⟨_,Xc _ gi (Obj.isFreed_of_fields (Obj.data_mapFields di _)),(Obj.cls_mapFields ..).trans ci,by rw [Obj.data_mapFields di]; simp [rawInt]⟩
 refine Ra (Rl (Ra (Vx (s:={ s with heap:=s.heap.update it (Obj.mapFields (·.setIfInBounds 1 (rawInt ((i:Int)+1)))) }) st2.typeIs ?_)))
 show wpAny _ _ (pure es[i].key) _ _ _
 exact Rb (Rb ⟨_,rfl,Rb (k _ st2 (Heap.SameBut.update ..))⟩)
theorem aE2 {Q:Option Value->Shared->Prop} (hh:A.handled=none) (st:s.heap.IsKeyIter it d i es.size ep) (g:s.heap.get? d=some ob) (gd:ob.data=.dict es ep) (ge:es.size<=i)
  (k:∀ h',Heap.ExtBut it s.heap h'->Q none { s with heap:=h' }):wpAny (model P w) A (pyNext (.ref it)) Q E s:=by
 obtain ⟨oi,gi,ci,di⟩:=id st
 unfold pyNext
 refine Ra (Rx (Rh (name:=Str.ofString "__next__") st.typeIs F.slot_dict_keyiterator_next (Rj F.slot_dict_keyiterator_next st.typeIs F.entry_dict_keyiterator_next ?_ (F.args_dict_keyiterator_next_1 _))))
 refine Ra (Rb (Ra (Ra ?_)))
 first
  | refine Ra (Ua st.typeIs (Rb (Ra (Td gi di ?_))))
  | refine Ra (Us st.typeIs (Rb (Ra (Td gi di ?_))))
 simp only [show Builtin.Dict_items.ownsTuple "dict_keyiterator" = false by decide,Jg,if_false]
 show wpAny _ _ (if (Value.ref d==Value.none)=true then _ else _) _ _ s
 rw [if_neg (λz:(Value.ref d==Value.none)=true=>Qr z)]
 refine Ra (Rb (Ra (Ui g gd ?_)))
 rw [if_neg (by simp)]
 refine Ra (Rb (Ra (Uu g gd ?_)))
 rw [if_neg (by simp)]
 refine Rb ?_
 simp only [show ¬ ((i:Int) < 0) from by omega,if_false,Jj,Array.getElem?_eq_none ge]
 refine Ra ?_
 first
  | refine Ra (Ua st.typeIs (Rb ?_))
  | refine Ra (Us st.typeIs (Rb ?_))
 show wpAny _ _ (setField (.ref it) 0 .none >>= _) _ _ s
 refine Ra (Uw gi di (by simp) ?_)
 show wpAny _ _ (newExc (.type "StopIteration") [] >>= _) _ _ _
 refine Ra ?_
 simp only [newExc,newTuple]
 refine Ra (Rk (Ra (m:=firstArgMember _ _) (Vl (a:=Value.none) (by first | rfl | (simp only [firstArgMember]; rfl)) (Rk ?_ (by size_fits)))) (by size_fits))
 simp only [raiseNew]
 refine Ra (Ih ?_)
 rw [show A.in1.handled=none from hh]
 refine Ra (Rb (Ml ?_))
 exact Ra (Tx (T := "StopIteration") (b:=true) ⟨_,Qg _ rfl,rfl⟩ Ux (Rb (k _ (((Heap.SameBut.update ..).extBut.push _).push _))))
end
section
variable {σ:St}
theorem Inv.freezeT (I:Inv X pins σ H s) (e:H a=some (.dT kvs)) (ho:s.heap.get? a=some o):Inv X pins σ (upd H a (.frz o (.dT kvs))) s:=by
 have m:Mut (H a):=by rw [e]; trivial
 have q:bN X.prog X.w H s.heap a (.dT kvs):=I.hok a _ e
 exact I.write (x:=a) (e:=a) (t':=s.toks) m (.inl rfl) (λb u _ z=>z) ⟨o,ho⟩ ⟨ho,bN.stay q (λ_ _ _ z=>z) (λc z=>by rw [aH (λy=>by rw [y,e] at z; cases z)]; exact z) (λc xs z=>by rw [aH (λy=>by rw [y,e] at z; cases z)]; exact z)⟩
theorem Inv.nfT (I:Inv X pins σ H s) (e:H a=some (.dT kvs)):NF X.H0x a:=λo u z=>by
 have y:=I.base.frzs a o u z
 rw [e] at y
 cases y
theorem Inv.thawT (I:Inv X pins σ H s) (e:H a=some (.frz o (.dT kvs))) (nf:NF X.H0x a):Inv X pins σ (upd H a (.dT kvs)) s:=by
 have ne:∀ b,H b=none->b≠a:=λb n z=>by rw [z,e] at n; cases n
 have nt:∀ b xs,H b=some (.tup xs)->b≠a:=λb xs n z=>by rw [z,e] at n; cases n
 have no:∀ b x,H b=some (.own x)->b≠a:=λb xs n z=>by rw [z,e] at n; cases n
 obtain ⟨ho,q⟩:s.heap.get? a=some o/\bN X.prog X.w H s.heap a (.dT kvs):=I.hok a _ e
 have un:Un X.fs X.ex X.H0x (upd H a (.dT kvs)) X.s0x.heap s.heap:=by
  refine ⟨I.base.keep,I.base.slot,λb ob q n hx=>?_,I.base.there,λb xs q=>?_,λb ob u q=>?_,λb ps q=>?_⟩
  ·have z:=I.base.free b ob q n hx
   rw [aH (ne b z)]; exact z
  ·have z:=I.base.tups b xs q
   rw [aH (nt b xs z)]; exact z
  ·have z:=I.base.frzs b ob u q
   have n:b≠a:=λy=>nf ob u (y ▸ q)
   rw [aH n]; exact z
  ·obtain ⟨m,z⟩:=I.base.tbls b ps q
   have n:b≠a:=λy=>by rw [y,e] at z; cases z
   exact ⟨m,by rw [aH n]; exact z⟩
 refine ⟨I.ok,I.os,I.bare,un,I.loc,I.cell,?_,λx c h=>?_,λp hp=>?_,λb u h=>?_,I.len⟩
 ·rw [aH (ne _ I.free)]; exact I.free
 ·have z:=I.freeC x c h
  rw [aH (ne _ z)]; exact z
 ·obtain ⟨p1,p2,p3⟩:=I.pin p hp
  exact ⟨p1,by rw [aH (ne _ p2)]; exact p2,p3⟩
 ·by_cases hb:b=a
  ·subst hb
   rw [aB] at h
   cases h
   exact bN.stay q (λ_ _ _ z=>z) (λc z=>by rw [aH (no c _ z)]; exact z) (λc xs z=>by rw [aH (nt c xs z)]; exact z)
  ·rw [aH hb] at h
   exact bN.stay (I.hok b u h) (λ_ _ _ z=>z) (λc z=>by rw [aH (no c _ z)]; exact z) (λc xs z=>by rw [aH (nt c xs z)]; exact z)
end
def Itx (a:Addr) (o:Obj) (kvs:List (List Key×V)):It :=
 ⟨λi H=>H a=some (.frz o (.dT kvs))/\i < kvs.length,λi H x H'=>H'=H/\∃ p b,kvs[i]?=some p/\x=.ref b/\H b=some (.tup (p.1.map kV)),λi H=>H a=some (.frz o (.dT kvs))/\i=kvs.length⟩
theorem KT.length {xs:List (List Key×Addr×Value)} (r:KT H kvs xs):kvs.length=xs.length:=by
 induction r with
 | nil=>rfl
 | cons _ _ ih=>rw [Ja,Ja,ih]
theorem KT.at {xs:List (List Key×Addr×Value)} (r:KT H kvs xs):∀ {i:Nat} {p:List Key×V} {x:List Key×Addr×Value},kvs[i]?=some p->xs[i]?=some x->p.1=x.1/\H x.2.1=some (.tup (p.1.map kV)):=by
 induction r with
 | nil=>intro i p x h; simp at h
 | cons h1 _ ih =>
  intro i p x hp hx
  cases i with
  | zero =>
   simp only [Wl,Option.some.injEq] at hp hx
   subst hp hx
   exact ⟨h1.1,h1.2.1⟩
  | succ j =>
   simp only [Wm] at hp hx
   exact ih hp hx
theorem aAg (a it:Addr) (o:Obj) (es:Array DictEntry) (ep:Nat) (hd:o.data=.dict es ep) (kvs:List (List Key×V)) :
  Turn P w K tg (Itx a o kvs) [it] it (λi h=>h.IsKeyIter it a i kvs.length ep) where
 mem:=by simp
 obj:=λi h st b hb=>by
  have e:b=it:=by simpa using hb
  subst e
  obtain ⟨o,e,c,d⟩:=st
  exact ⟨o,e,λv z=>by rw [d] at z; cases z⟩
 keep:=λi h h' st k=>st.at λo e=>k it (by simp) o e
 item:=by
  intro X hP hw hK hc i pins s σ H E I hf st hg
  subst hP hw hK
  obtain ⟨hA,hi⟩:=hg
  obtain ⟨ho,hz,hs,xs,kt,o',es',ep',q1,q2,q3,q4,q5⟩:s.heap.get? a=some o/\bN X.prog X.w H s.heap a (.dT kvs):=I.hok a _ hA
  rw [ho] at q1
  cases q1
  rw [hd] at q3
  cases q3
  have hl:kvs.length=xs.length:=KT.length kt
  have hz2:es.size=xs.length:=Ug q4
  have hz3:es.size=kvs.length:=hz2.trans hl.symm
  obtain ⟨f0,f1,f2,f3,f4,f5⟩:=hf it (by simp)
  have lt:i < es.size:=by omega
  rw [<- hz3] at st
  refine aDE st ho hd lt λh' st' sb=>?_
  have I1:Inv X pins σ H { s with heap:=h' }:=I.turned (t':=s.toks) (λb o hb e=>(sb.2 b hb).trans e) f0 f1 f3 f4 f5
  obtain ⟨oi,e',c',d'⟩:=id st'
  have hk:kvs[i]?=some (kvs[i]):=Qc hi
  have hx:xs[i]?=some (xs[i]'(by omega)):=Qc (by omega)
  have hat:=KT.at kt hk hx
  have ek:es[i].key=.ref (xs[i]'(by omega)).2.1:=by
   have z:=entry_at q4 i
   rw [hx,Array.getElem?_eq_getElem lt] at z
   rw [Option.some.inj z]
   rfl
  rw [hz3] at st'
  rw [ek]
  exact ⟨_,rfl,wR (s:={ s with heap:=h' }) e' c' d' (by decide) ⟨.ref (xs[i]'(by omega)).2.1,H,I1,rfl,⟨rfl,_,_,hk,rfl,hat.2⟩,st',λb hb=>(hf b hb).1⟩⟩
 done:=by
  intro X hP hw hK hc i pins s σ H E I hf st hg
  subst hP hw hK
  obtain ⟨hA,hi⟩:=hg
  obtain ⟨ho,hz,hs,xs,kt,o',es',ep',q1,q2,q3,q4,q5⟩:s.heap.get? a=some o/\bN X.prog X.w H s.heap a (.dT kvs):=I.hok a _ hA
  rw [ho] at q1
  cases q1
  rw [hd] at q3
  cases q3
  have hz3:es.size=kvs.length:=(Ug q4).trans (KT.length kt).symm
  obtain ⟨f0,f1,f2,f3,f4,f5⟩:=hf it (by simp)
  rw [<- hz3] at st
  exact aE2 (I.ok.hd hc) st ho hd (by omega) λh' eb=>⟨rfl,I.turned (t':=s.toks) (λb o hb e=>eb b o hb e) f0 f1 f3 f4 f5⟩
 self:=λ_ _ _ _ _ st h=>Ras st h
def aGu (H0:Hp) (td:TE):TI:=λσ H R=>td σ H λx H1=>∃ a kvs,x=.ref a/\H1 a=some (.dT kvs)/\∀ o,NF H0 a->R (Itx a o kvs) (upd H1 a (.frz o (.dT kvs)))
theorem rK {d:Expr} (hl:PE X d td):PI X tg d (aGu X.H0x td):=by
 intro pins s σ H R I h
 refine thn (hl pins s σ H _ I h) λv s1 hx9=>?_
 obtain ⟨x,H1,I1,r1,q1⟩:=hx9
 obtain ⟨a,kvs,e,hq,q⟩:=q1
 subst e
 cases r1
 obtain ⟨hz,hs,xs,kt,o,es,ep,ho,ox,hd,q4,q5⟩:bN X.prog X.w H1 s1.heap a (.dT kvs):=I1.hok a _ hq
 refine aDD hs ho ox hd ?_
 have I2:=(I1.freezeT hq ho).kept (h':=s1.heap.push { cls:=.type "dict_keyiterator",data:=.fields #[.ref a,.int 0 0,.int es.size 0,.int ep 0] }) (t':=s1.toks) λb o e=>Qa _ e
 have nA:a≠s1.heap.objs.size:=Qz (Qm ho)
 refine ⟨s1.heap.objs.size,[s1.heap.objs.size],_,_,_,rfl,I2,aAg a _ o es ep hd kvs,?_,λb hb=>?_,q o (I1.nfT hq)⟩
 ·refine ⟨_,Qg _ rfl,rfl,?_⟩
  rw [KT.length kt,<- Ug q4]
  rfl
 ·have e:b=s1.heap.objs.size:=by simpa using hb
  subst e
  exact I1.fpOk (Qh _) (by rw [aH (Ne.symm nA)]; exact I1.hok.fresh (Qh _))
def aGv (H0:Hp) (t:TS):TS:=λD σ H=>t { D with nx:=λσ' H'=>∃ a o kvs,H' a=some (.frz o (.dT kvs))/\NF H0 a/\D.nx σ' (upd H' a (.dT kvs)) } σ H
theorem aDF {t:TS} (h:PS X st t):PS X st (aGv X.H0x t):=by
 intro pins s σ H D I q
 refine thn (h pins s σ H _ I q) λf s1 z=>?_
 cases f with
 | next =>
  obtain ⟨σ',H',I',a,o,kvs,e,nf,k⟩:=z
  exact ⟨σ',_,I'.thawT e nf,k⟩
 | brk=>exact z
 | cont=>exact z
 | ret u=>exact z
theorem aCi {D:Ends} {σ:St} (Pv:Nat->St->Hp->Prop) (h0:Pv 0 σ H) (hl:∀ i σ H,i<=kvs.length->Pv i σ H->H a=some (.frz o (.dT kvs))) (hs:∀ i p b σ H,kvs[i]?=some p->H b=some (.tup (p.1.map kV))->Pv i σ H->g (.ref b) σ H λσ2 H2=>tb { D with nx:=Pv (i+1),ct:=Pv (i+1),bk:=D.nx } σ2 H2) (hd:∀ σ H,Pv kvs.length σ H->D.nx σ H) :
  ∃ W:Nat->Nat->St->Hp->Prop,(∃ m,W 0 m σ H)/\∀ i m σ H,W i m σ H ->
   ((Itx a o kvs).stop i H/\D.nx σ H)∨((Itx a o kvs).go i H/\∃ N:St->Hp->Prop,(∀ σ' H',N σ' H'->∃ m',m' < m/\W (i+1) m' σ' H')/\∀ x H',(Itx a o kvs).yld i H x H'->g x σ H' λσ2 H2=>tb { D with nx:=N,ct:=N,bk:=D.nx } σ2 H2):=by
 refine ⟨λi m σ H=>m=kvs.length - i/\i<=kvs.length/\Pv i σ H,⟨kvs.length,by simp,Jr _,h0⟩,?_⟩
 rintro i m σ H ⟨rfl,hi,p⟩
 have q:=hl i σ H hi p
 by_cases hlt:i < kvs.length
 ·refine .inr ⟨⟨q,hlt⟩,Pv (i+1),λσ' H' p'=>⟨kvs.length - (i+1),by omega,rfl,hlt,p'⟩,λx H' y=>?_⟩
  obtain ⟨rfl,v,b,hv,rfl,hb⟩:=y
  exact hs i v b σ H' hv hb p
 ·have e:i=kvs.length:=by omega
  subst e
  exact .inl ⟨⟨q,rfl⟩,hd σ H p⟩
def aE3 (tk tv:TE):TE:=λσ H Q=>∀ p,H p=none->tk σ (upd H p (.dT [])) λx H1=>tv σ H1 λy H2=>∃ k b,x=.ref b/\H2 b=some (.tup (k.map kV))/\H2 p=some (.dT [])/\Q (.ref p) (upd H2 p (.dT [(k,y)]))
section
variable {ek ev:Expr}
theorem aCj (hu:X.A.units+1 < cLine) (hk:PE X ek tk) (hv:PE X ev tv) (he:pairTrees [some ek] [ev] X.env pos = [(eval ek X.env,do let x<-eval ev X.env; standAt pos; pure x)]:=by rfl):PE X (.Dict [some ek] [ev] pos) (aE3 tk tv):=by
 intro pins s σ H Q I h
 have I0:Inv X pins σ (upd H s.heap.objs.size (.dT [])) { s with heap:=s.heap.push { cls:=.type "dict",data:=.dict #[] } }:=I.laid (a:=s.heap.objs.size) (o:=.dT []) (t':=s.toks) (λ_ _ q=>Qa _ q) (Qh _) (xS s.heap I.big)
 have h0:=h s.heap.objs.size (I.hok.fresh (Qh _))
 refine wpAny_Dict_any rfl rfl (by simp) (by simp) ?_
 rw [he]
 refine evalPairs_cons (thn (hk pins _ σ _ _ I0 h0) λkv s1 hx9=>?_)
 obtain ⟨x,H1,I1,r1,q1⟩:=hx9
 refine Ra (thn (hv pins _ σ _ _ I1 q1) λvv s2 hx9=>?_)
 obtain ⟨y,H2,I2,r2,q2⟩:=hx9
 refine Ra (Tg (Rb (evalPairs_nil ?_)))
 obtain ⟨k,b,rfl,hb,hp,q⟩:=q2
 cases (show kv=Value.ref b from r1)
 obtain ⟨z,hd,xs,rel,dd⟩:=aFM I2.hok hp
 have x0:xs = []:=Jp.mp (KT.length rel).symm
 subst x0
 unfold storeAll
 rw [Zb]
 refine Ra (Ra (RaA (hsz:=Jr _) (show X.A.units < cLine by omega) (lJ I2.hok hb) dd λh' dd' hs=>Rb ?_))
 dsimp only
 rw [Zi]
 refine Rb ?_
 obtain ⟨qo,es,ep,hq,h2,h3,h4,_,h5⟩:=dd'
 have mu:Mut (H2 s.heap.objs.size):=by rw [hp]; trivial
 have put:=KT.keeps (H':=upd H2 s.heap.objs.size (.dT [(k,y)])) (KT.put (kvs:=[]) (xs:=[]) .nil k hb r2) λc ys ec=>by
  rw [aH (aFB ec hp (λz=>nomatch z))]
  exact ec
 exact ⟨.ref s.heap.objs.size,_,qK (ob:=.dT [(k,y)]) I2 mu hs ⟨_,hq⟩ ⟨by rw [Rf]; simp,hd,_,put,qo,es,ep,hq,h2,h3,h4,h5⟩,rfl,q⟩
end
abbrev KE:=List Key×Addr×V
def kvE (e:KE):List Key×V:=(e.1,e.2.2)
def Kp (ys:List KE) (H:Hp):Prop:=∀ e∈ys,H e.2.1=some (.tup (e.1.map kV))
def KY (ys:List KE) (its:List (List Key×Addr×Value)):Prop:=Paired (λ(p:KE) (q:List Key×Addr×Value)=>p.1=q.1/\p.2.1=q.2.1/\bQ p.2.2 q.2.2) ys its
def DH (P:Program) (w:World) (h:Heap) (D:Addr) (its:List (List Key×Addr×Value)):Prop:=∃ o es ep,h.get? D=some o/\o.ExactDict/\o.data=.dict es ep/\es.toList=its.map (entryOfKey (tupleKind (cA P w)))/\(its.map (·.1)).Nodup
theorem Kp.wr {ys:List KE} {o:HO} (h:Kp ys H) (n:H D=none):Kp ys (upd H D o):=λe he=>by
 rw [aH (λz=>by have q:=h e he; rw [z,n] at q; cases q)]
 exact h e he
theorem KY.length {ys:List KE} (r:KY ys its):ys.length=its.length:=by
 induction r with
 | nil=>rfl
 | cons _ _ ih=>rw [Ja,Ja,ih]
theorem KY.kt {ys:List KE} (r:KY ys its):Kp ys H->KT H (ys.map kvE) its:=by
 induction r with
 | nil=>intro _; exact .nil
 | cons h1 _ ih=>intro hp; exact .cons ⟨h1.1,by rw [<- h1.2.1]; exact hp _ (Qj ..),h1.2.2⟩ (ih λe he=>hp e (Qk _ he))
theorem KY.snoc {ys:List KE} {k:List Key} {v:Value} (r:KY ys its) (h:bQ y v):KY (ys++[(k,b,y)]) (its++[(k,b,v)]):=by
 induction r with
 | nil=>exact .cons ⟨rfl,rfl,h⟩ .nil
 | cons h1 _ ih=>exact .cons h1 ih
theorem KY.keys {ys:List KE} (r:KY ys its):ys.map (·.1)=its.map (·.1):=by
 induction r with
 | nil=>rfl
 | cons h1 _ ih=>rw [Qy,Qy,ih,h1.1]
theorem KY.noKey {ys:List KE} {k:List Key} (r:KY ys its) (n:k∉ys.map (·.1)):atKey its k=none:=by
 rw [r.keys] at n
 exact atKey_none_of_get λj p h=>n (Qw.mpr ⟨_,Qi h,rfl⟩)
theorem DH.at (d:DH P w h D its) (k:∀ o,h.get? D=some o->h'.get? D=some o):DH P w h' D its:=let ⟨o,es,ep,h1,r⟩:=d; ⟨o,es,ep,k _ h1,r⟩
theorem DH.of (d:h.DictOfH (tupleKind (cA P w)) D its):DH P w h D its:=let ⟨o,es,ep,h1,h2,h3,h4,_,h5⟩:=d; ⟨o,es,ep,h1,h2,h3,h4,h5⟩
theorem DH.ofH {ys:List KE} (d:DH P w h D its) (r:KY ys its) (kp:Kp ys H) (ok:HOk P w H h):h.DictOfH (tupleKind (cA P w)) D its:=by
 obtain ⟨o,es,ep,h1,h2,h3,h4,h5⟩:=d
 refine ⟨o,es,ep,h1,h2,h3,h4,?_,h5⟩
 clear h1 h2 h3 h4 h5
 induction r with
 | nil=>intro x hx; cases hx
 | @cons p q ps qs hq _ ih =>
  intro x hx
  rcases Qn.mp hx with e | hx
  ·subst e
   exact lJ ok (by rw [<- hq.1,<- hq.2.1]; exact kp _ (Qj ..))
  ·exact ih (λe he=>kp e (Qk _ he)) x hx
def PDt (ys:List KE) (x y:V) (H:Hp) (R:List KE->Hp->Prop):Prop:=∃ k b,x=.ref b/\H b=some (.tup (k.map kV))/\Kp ys H/\k∉ys.map (·.1)/\ys.length < sizeLine/\R (ys++[(k,b,y)]) H
def OkT (P:Program) (w:World) (D:Addr) (ys:List KE) (h:Heap):Prop:=ys.length<=sizeLine/\∃ its,KY ys its/\DH P w h D its
theorem aHt:AccOk P w A newDict [] (OkT P w) where
 new:=⟨aHs,λv z=>(by cases z),rfl,λh D e=>⟨Jr _,[],.nil,_,#[],0,e,⟨rfl,rfl,rfl⟩,rfl,rfl,Ya⟩,λh=>Rk h⟩
 keep:=λ⟨hl,its,v,d⟩ k=>⟨hl,its,v,d.at k⟩
 obj:=λ⟨_,_,_,o,es,ep,h1,h2,h3,_⟩=>⟨o,h1,λv z=>by rw [h3] at z; cases z⟩
def aE4 (own:Nat) (fr:List Nat) (wi:TI) (g:TG) (tt:TT) (tk tv:TE):TE:=λσ H Q=>wi σ H λJ H1=>Wlk J [] (blk own fr σ) H1 (λys _ H=>Kp ys H/\∀ p,H p=none->Q (.ref p) (upd H p (.dT (ys.map kvE)))) g tt (tbD PDt tk tv)
section
variable {fr:List Nat} {wi:TI}
theorem aCk (hu:X.A.units+1 < cLine) (S:CompOk X scope z own fr frn) (hc:X.calm=true) (hi:PI X tg iter wi) (hg:∀ C s0 H0 fp,PG (bP X scope z (own++frn) C s0 H0 fp) tg g) (ht:∀ C s0 H0 fp,PF (bP X scope z (own++frn) C s0 H0 fp) ifs tt)
  (hk:∀ C s0 H0 fp,PE (bP X scope z (own++frn) C s0 H0 fp) kx tk) (he:∀ C s0 H0 fp,PE (bP X scope z (own++frn) C s0 H0 fp) vx tv) (hs:∀ x,foldedSetIterable iter X.env x=pure x:=by intro _; rfl) :
  PE X (.DictComp kx vx [⟨tg,iter,ifs,0⟩] scope pos) (aE4 own.length fr wi g tt tk tv) :=
 qX S rfl aHq aHt hc (arm_eval_DictComp ..) hi hg ht (λC s0 H0 fp=>aHr aHt (hk C s0 H0 fp) (he C s0 H0 fp) λ{D a s H x y kv vv R} ok ⟨hl,its,v,d⟩ r1 r2 ⟨k,b,ek,hb,kp,nk,lt,q⟩=>by
  subst ek
  cases (show kv=Value.ref b from r1)
  have hl':=v.length
  refine RaA (hsz:=by rw [<- hl']; exact Yo lt) (show X.A.units < cLine by omega) (lJ ok hb) (d.ofH v kp ok) λh11 dd11 sb11=>?_
  rw [storedH_new (v.noKey nk)] at dd11
  exact ⟨h11,_,_,rfl,sb11,⟨by rw [Qq]; exact lt,_,v.snoc r2,DH.of dd11⟩,q⟩) hs
  λ⟨hl,its,v,d⟩ hn hm q=>⟨.dT _,⟨by rw [Qb]; exact hl,hm,its,v.kt (q.1.wr hn),d⟩,q.2 _ hn⟩
end
def aE5 (H0:Hp) (t:TE):TE:=λσ H Q=>t σ H λx H'=>∃ a o kvs,H' a=some (.frz o (.dT kvs))/\NF H0 a/\Q x (upd H' a (.dT kvs))
def aE6 (own:Nat) (fr:List Nat) (td:TE) (g:TG) (tt:TT) (tk tv:TE):TE:=λσ H Q=>td σ H λx H1=>∃ a kvs,x=.ref a/\H1 a=some (.dT kvs)/\∀ o:Obj,Wlk (Itx a o kvs) [] (blk own fr σ) (upd H1 a (.frz o (.dT kvs))) (λys _ H=>Kp ys H/\∀ p,H p=none->Q (.ref p) (upd (upd H p (.dT (ys.map kvE))) a (.dT kvs))) g tt (tbD PDt tk tv)
section
variable {fr:List Nat} {d:Expr} {t:TE}
theorem yB (h:PE X e t):PE X e (aE5 X.H0x t):=by
 intro pins s σ H Q I q
 refine thn (h pins s σ H _ I q) λv s1 hx=>?_
 obtain ⟨x,H1,I1,r1,a,o,kvs,ea,nf,k⟩:=hx
 exact ⟨x,_,I1.thawT ea nf,r1,k⟩
theorem aCl (hu:X.A.units+1 < cLine) (S:CompOk X scope z own fr frn) (hc:X.calm=true) (hi:PE X d td) (hg:∀ C s0 H0 fp,PG (bP X scope z (own++frn) C s0 H0 fp) tg g) (ht:∀ C s0 H0 fp,PF (bP X scope z (own++frn) C s0 H0 fp) ifs tt)
  (hk:∀ C s0 H0 fp,PE (bP X scope z (own++frn) C s0 H0 fp) kx tk) (he:∀ C s0 H0 fp,PE (bP X scope z (own++frn) C s0 H0 fp) vx tv) (hs:∀ x,foldedSetIterable d X.env x=pure x:=by intro _; rfl) :
  PE X (.DictComp kx vx [⟨tg,d,ifs,0⟩] scope pos) (aE6 own.length fr td g tt tk tv):=by
 intro pins s σ H Q I h
 refine yB (aCk hu S hc (rK (aFO hi)) hg ht hk he hs) pins s σ H Q I ⟨_,h,λx H1 q=>?_⟩
 obtain ⟨a,kvs,ex,hx,k⟩:=q
 refine ⟨a,kvs,ex,hx,λo nf=>?_⟩
 obtain ⟨W,w0,wk⟩:=k o
 refine ⟨W,w0,λi m ys σ' H' w=>?_⟩
 rcases wk i m ys σ' H' w with ⟨st,kp,q⟩ | z
 ·refine .inl ⟨st,kp,λp hp=>⟨a,o,kvs,?_,nf,q p hp⟩⟩
  rw [aH (λz=>by rw [<- z,st.1] at hp; cases hp)]
  exact st.1
 ·exact .inr z
end
theorem yC {own:Nat} {fr:List Nat} {σ:St} {Q:Hp->List KE->Prop} (SH:St->Prop) (Pv:Nat->List KE->Hp->Prop) (hn:kvs.length<=sizeLine) (hσ:SH (blk own fr σ)) (h0:Pv 0 [] H) (hlen:∀ i ys H,Pv i ys H->ys.length<=i) (hl:∀ i ys H,Pv i ys H->H a=some (.frz o (.dT kvs))/\Kp ys H) (hs:∀ i ys σ p b H,kvs[i]?=some p->H b=some (.tup (p.1.map kV))->SH σ->Pv i ys H->ys.length < sizeLine->g (.ref b) σ H λσ2 H2=>tt σ2 H2 λc H3=>if c=true then tk σ2 H3 λx H4=>tv σ2 H4 λy H5=>∃ k b,x=.ref b/\H5 b=some (.tup (k.map kV))/\Kp ys H5/\k∉ys.map (·.1)/\ys.length < sizeLine/\SH σ2/\Pv (i+1) (ys++[(k,b,y)]) H5 else SH σ2/\Pv (i+1) ys H3) (hd:∀ ys H,Pv kvs.length ys H->Q H ys) :
  Wlk (Itx a o kvs) [] (blk own fr σ) H (λys _ H=>Kp ys H/\Q H ys) g tt (tbD PDt tk tv) :=
 vB (Q:=λH ys=>Kp ys H/\Q H ys) kvs.length SH Pv hσ h0 (λys H p=>⟨(hl _ _ _ p).1,rfl⟩) (λi ys H hi p=>⟨(hl _ _ _ p).1,hi⟩) (λi ys σ x H H' hi sh p y=>by
  obtain ⟨rfl,v,b,hv,rfl,hb⟩:=y
  exact hs i ys σ v b _ hv hb sh p (by have:=hlen i ys _ p; omega)) λys H p=>⟨(hl _ _ _ p).2,hd _ _ p⟩
section
variable {d v:Addr} {i:Nat} {es:Array DictEntry}
theorem aCm (hv:s.heap.IsValuesView v d) (g:s.heap.get? d=some ob) (gd:ob.data=.dict es ep) (k:Q (.ref s.heap.objs.size) { s with heap:=s.heap.push { cls:=.type "dict_valueiterator",data:=.fields #[.ref d,.int 0 0,.int es.size 0,.int ep 0] } }):wpAny (model P w) A (pyIter (.ref v)) Q E s:=by
 obtain ⟨ov,gv,cv,dv⟩:=id hv
 refine Vn hv.typeIs F.slot_dict_values_iter (Rj F.slot_dict_values_iter hv.typeIs F.entry_dict_values_iter ?_ (F.args_dict_values_iter_1 _))
 unfold Builtin.«dict_values.__iter__»
 refine Ra (Rb (Ra ?_))
 unfold Builtin.Dict_items.dictOf
 refine Ra (Ri gv dv (x:=.ref d) rfl (Rb (Ra ?_)))
 unfold Builtin.Dict_items.newIterator
 refine Ra (Ui g gd (Ra (Uu g gd ?_)))
 simp only [show Builtin.Dict_items.ownsTuple "dict_valueiterator" = false by decide,Jg,if_false]
 exact Rk (Rb ⟨_,rfl, "dict_valueiterator",_,⟨_,Qg _ rfl,rfl⟩,F.slot_dict_valueiterator_next.lookup,by simpa [rawInt] using k⟩)
theorem aCn {Q:Option Value->Shared->Prop} (st:s.heap.IsValIter it d i es.size ep) (g:s.heap.get? d=some ob) (gd:ob.data=.dict es ep) (lt:i < es.size)
  (k:∀ h',h'.IsValIter it d (i+1) es.size ep->Heap.SameBut it s.heap h'->Q (some es[i].val) { s with heap:=h' }):wpAny (model P w) A (pyNext (.ref it)) Q E s:=by
 obtain ⟨oi,gi,ci,di⟩:=id st
 unfold pyNext
 refine Ra (Rx (Rh (name:=Str.ofString "__next__") st.typeIs F.slot_dict_valueiterator_next (Rj F.slot_dict_valueiterator_next st.typeIs F.entry_dict_valueiterator_next ?_ (F.args_dict_valueiterator_next_1 _))))
 refine Ra (Rb (Ra (Ra ?_)))
 first
  | refine Ra (Ub st.typeIs (Rb (Ra (Td gi di ?_))))
  | refine Ra (Ut st.typeIs (Rb (Ra (Td gi di ?_))))
 simp only [show Builtin.Dict_items.ownsTuple "dict_valueiterator" = false by decide,Jg,if_false]
 show wpAny _ _ (if (Value.ref d==Value.none)=true then _ else _) _ _ s
 rw [if_neg (λz:(Value.ref d==Value.none)=true=>Qr z)]
 refine Ra (Rb (Ra (Ui g gd ?_)))
 rw [if_neg (by simp)]
 refine Ra (Rb (Ra (Uu g gd ?_)))
 rw [if_neg (by simp)]
 refine Rb ?_
 simp only [show ¬ ((i:Int) < 0) from by omega,if_false,Jj,Array.getElem?_eq_getElem lt]
 refine Ra ?_
 first
  | refine Ra (Ub st.typeIs (Rb (Ra (Uz st.typeIs ?_))))
  | refine Ra (Ut st.typeIs (Rb (Ra (Uz st.typeIs ?_))))
 show wpAny _ _ (setField (.ref it) 1 (rawInt ((i:Int)+1)) >>= _) _ _ s
 refine Ra (Uw gi di (by simp) ?_)
 have st2:(s.heap.update it (Obj.mapFields (·.setIfInBounds 1 (rawInt ((i:Int)+1))))).IsValIter it d (i+1) es.size ep :=
  ⟨_,Xc _ gi (Obj.isFreed_of_fields (Obj.data_mapFields di _)),(Obj.cls_mapFields ..).trans ci,by rw [Obj.data_mapFields di]; simp [rawInt]⟩
 refine Ra (Rl (Ra (Uz (s:={ s with heap:=s.heap.update it (Obj.mapFields (·.setIfInBounds 1 (rawInt ((i:Int)+1)))) }) st2.typeIs ?_)))
 refine Ra (Uz (s:={ s with heap:=s.heap.update it (Obj.mapFields (·.setIfInBounds 1 (rawInt ((i:Int)+1)))) }) st2.typeIs ?_)
 show wpAny _ _ (pure es[i].val) _ _ _
 exact Rb (Rb ⟨_,rfl,Rb (k _ st2 (Heap.SameBut.update ..))⟩)
theorem aDG {Q:Option Value->Shared->Prop} (hh:A.handled=none) (st:s.heap.IsValIter it d i es.size ep) (g:s.heap.get? d=some ob) (gd:ob.data=.dict es ep) (ge:es.size<=i)
  (k:∀ h',Heap.ExtBut it s.heap h'->Q none { s with heap:=h' }):wpAny (model P w) A (pyNext (.ref it)) Q E s:=by
 obtain ⟨oi,gi,ci,di⟩:=id st
 unfold pyNext
 refine Ra (Rx (Rh (name:=Str.ofString "__next__") st.typeIs F.slot_dict_valueiterator_next (Rj F.slot_dict_valueiterator_next st.typeIs F.entry_dict_valueiterator_next ?_ (F.args_dict_valueiterator_next_1 _))))
 refine Ra (Rb (Ra (Ra ?_)))
 first
  | refine Ra (Ub st.typeIs (Rb (Ra (Td gi di ?_))))
  | refine Ra (Ut st.typeIs (Rb (Ra (Td gi di ?_))))
 simp only [show Builtin.Dict_items.ownsTuple "dict_valueiterator" = false by decide,Jg,if_false]
 show wpAny _ _ (if (Value.ref d==Value.none)=true then _ else _) _ _ s
 rw [if_neg (λz:(Value.ref d==Value.none)=true=>Qr z)]
 refine Ra (Rb (Ra (Ui g gd ?_)))
 rw [if_neg (by simp)]
 refine Ra (Rb (Ra (Uu g gd ?_)))
 rw [if_neg (by simp)]
 refine Rb ?_
 simp only [show ¬ ((i:Int) < 0) from by omega,if_false,Jj,Array.getElem?_eq_none ge]
 refine Ra ?_
 first
  | refine Ra (Ub st.typeIs (Rb ?_))
  | refine Ra (Ut st.typeIs (Rb ?_))
 show wpAny _ _ (setField (.ref it) 0 .none >>= _) _ _ s
 refine Ra (Uw gi di (by simp) ?_)
 show wpAny _ _ (newExc (.type "StopIteration") [] >>= _) _ _ _
 refine Ra ?_
 simp only [newExc,newTuple]
 refine Ra (Rk (Ra (m:=firstArgMember _ _) (Vl (a:=Value.none) (by first | rfl | (simp only [firstArgMember]; rfl)) (Rk ?_ (by size_fits)))) (by size_fits))
 simp only [raiseNew]
 refine Ra (Ih ?_)
 rw [show A.in1.handled=none from hh]
 refine Ra (Rb (Ml ?_))
 exact Ra (Tx (T := "StopIteration") (b:=true) ⟨_,Qg _ rfl,rfl⟩ Ux (Rb (k _ (((Heap.SameBut.update ..).extBut.push _).push _))))
theorem aAh (hh:A.handled=none) (hne:d≠it) (gd:ob.data=.dict es ep) :
  Walks P w A it [it,d] [it] es.size (λi v=>∃ e,es[i]?=some e/\v=e.val) (λi h=>h.IsValIter it d i es.size ep/\h.get? d=some ob) where
 sub:=λb hb=>by simp at hb; simp [hb]
 frame:=λ_ _ _ st hk=>⟨st.1.at λo e=>hk it (by simp) o e,hk d (by simp) _ st.2⟩
 item:=λi s Q E hi st hQ=>aCn st.1 st.2 gd hi λh' st' sb=>hQ _ h' s.toks ⟨_,Array.getElem?_eq_getElem hi,rfl⟩ ⟨st',(sb.2 d hne).trans st.2⟩ λb o hb e=>sb.extBut b o (λh=>hb (by simp [h])) e
 done:=λs Q E st hQ=>aDG hh st.1 st.2 gd (Qh _) λh' eb=>hQ h' s.toks λb o hb e=>eb b o (λh=>hb (by simp [h])) e
 self:=λ_ _ _ _ st hQ=>wpAny_pyIter_valiter st.1 hQ
theorem yD (d:Addr) (hd:(d==sysModules)=false):MeetsIn P w (Builtin.«dict.values» ⟨[.ref d],[]⟩) (λ_ R s=>s.TypeIs (.ref d) "dict" /\ R (.ok (.ret (.ref s.heap.objs.size))) { s with heap:=s.heap.push { cls:=.type "dict_values",data:=.fields #[.ref d] } }) :=
 .of_wp λA R s ⟨ty,h⟩=>by
  refine Ra ?_
  unfold Builtin.Dict.noArgs
  refine Ra (Ram ty (Rb ?_))
  show wpAny _ _ (Builtin.Dict.showsAll d >>= _) _ _ s
  unfold Builtin.Dict.showsAll
  rw [if_neg (show ¬ (d==sysModules)=true by rw [hd]; decide)]
  exact Ra (Rb (Ra (Rk (Rb ⟨_,rfl,h⟩))))
end
def aHu (te:TE):TE:=λσ H Q=>te σ H λx H1=>∃ (a:Addr) (kvs:List (List Key×V)) (ns:List Int),x=.ref a/\H1 a=some (.dT kvs)/\kvs.map (·.2)=ns.map V.int/\(∀ n∈ns,0<=n/\n < 10000000000)/\ns.length<=10000000/\Q (.int (aQ ns)) H1
theorem KT.vals {xs:List (List Key×Addr×Value)} (r:KT H kvs xs):∀ {i:Nat} {p:List Key×V} {x:List Key×Addr×Value},kvs[i]?=some p->xs[i]?=some x->bQ p.2 x.2.2:=by
 induction r with
 | nil=>intro i p x h; simp at h
 | cons h1 _ ih =>
  intro i p x hp hx
  cases i with
  | zero =>
   simp only [Wl,Option.some.injEq] at hp hx
   subst hp hx
   exact h1.2.2
  | succ j =>
   simp only [Wm] at hp hx
   exact ih hp hx
theorem aCo (ms:List Int) (hh:∀ n∈ms,0<=n/\n < 10000000000):0<=aQ ms/\aQ ms<=ms.length*10000000000:=by
 induction ms with
 | nil=>exact ⟨Xd _,Xd _⟩
 | cons a l ih =>
  have h1:=hh a Qj
  have h2:=ih λn hn=>hh n (Qk _ hn)
  have e:aQ (a::l)=a+aQ l:=rfl
  rw [e,Ja,Yg]
  omega
section
variable {o:Expr}
theorem aE7 (hc:X.calm=true) (hg:Gl X "sum") (hm:X.mg "sum" = none) (hv:bootBuiltins "sum" = some (.builtin "sum")) (ho:PE X o to) (hbase:attributeBase o "values" X.env (eval o X.env)=eval o X.env:=by rfl) (hline:(apos.endLine==cpos.line)=true:=by rfl)
  (hs:starEach [.Call (.Attribute o "values" apos) [] [] cpos] X.env = [(false,eval (.Call (.Attribute o "values" apos) [] [] cpos) X.env)]:=by rfl):PE X (.Call (.Name "sum" p) [.Call (.Attribute o "values" apos) [] [] cpos] [] pos) (aHu to):=by
 intro pins s σ H Q I h
 refine Uc (iU I hg hm hv ?_ (by decide) (by decide))
 refine PyProof.Rows.callWith_builtin1 ?_ hs rfl
 rw [hs]
 show wpAny _ _ (spliced ((false,eval (.Call (.Attribute o "values" apos) [] [] cpos) X.env)::backTo pos [])) _ _ s
 refine Calls.spliced_cons ?_
 refine wpAny_Call_method0_late hbase hline (thn (ho pins s σ H _ I h) λv s1 hx9=>?_)
 obtain ⟨x,H1,I1,r1,a,kvs,ns,ex,ha,hk,hb,hl,q⟩:=hx9
 subst ex
 cases r1
 obtain ⟨h1,h2⟩:=aCV (T := "dict") I1 (show bQ (.ref a) (.ref a) from rfl) (.inr (.inr (.inl ⟨rfl,.inr ⟨_,ha⟩⟩)))
 obtain ⟨hz,hs,xs,kt,ob,es,ep,g,gx,gd,q4,q5⟩:bN X.prog X.w H1 s1.heap a (.dT kvs):=I1.hok a _ ha
 refine ⟨"dict", "dict.values",Me,Ma,PySem.F.type_dict_values,h1,h2,Calls.callWith_builtin rfl (PySem.evalArgs_none ?_)⟩
 have ty:s1.TypeIs (.ref a) "dict" := ⟨ob,g,gx.1⟩
 refine call_meetsIn Ma ty PySem.F.entry_dict_values (PySem.F.args_dict_values_1 _) (yD a hs) ⟨ty,?_⟩
 refine Calls.spliced_nil ?_
 have hnl:ns.length=kvs.length:=by
  have z:=congrArg Yk hk
  rw [Qb,Qb] at z
  exact z.symm
 have hz2:es.size=ns.length:=(Ug q4).trans ((KT.length kt).symm.trans hnl.symm)
 have hlt:a < s1.heap.objs.size:=Qm g
 have hval:∀ (i:Nat) (v:Int),ns[i]?=some v->(ns[i]?).getD 0=v:=λi v e=>by rw [e]; rfl
 have gp:(s1.heap.push { cls:=.type "dict_values",data:=.fields #[.ref a] }).get? a=some ob:=Qa _ g
 refine call_sum_walk (aCm (v:=s1.heap.objs.size) ⟨_,Qg _ rfl,rfl,rfl⟩ gp gd ?_)
 have hsz1:(s1.heap.push { cls:=.type "dict_values",data:=.fields #[.ref a] }).objs.size=s1.heap.objs.size+1:=Jk ..
 refine ⟨(s1.heap.push { cls:=.type "dict_values",data:=.fields #[.ref a] }).objs.size,_,_,_,_,_,λi=>(ns[i]?).getD 0,rfl,aAh (A:=X.A.in1) (d:=a) (I1.ok.hd hc) (Qz (by rw [hsz1]; exact Jx hlt)) gd,⟨⟨_,Qg _ rfl,rfl,rfl⟩,Qa _ gp⟩,?_,?_,?_,λh' tk t' hk2=>?_⟩
 ·intro b hb'
  show b < (Heap.push _ _).objs.size
  rw [Jk,hsz1]
  rcases Qn.mp hb' with e | e
  ·rw [e,hsz1]; exact Xx _
  ·have e':b=a:=by simpa using e
   rw [e']; exact Jx (Jx hlt)
 ·intro i v hP
  obtain ⟨e,he,rfl⟩:=hP
  have hi:i < es.size:=by
   rcases Yz i es.size with h | h
   ·exact h
   ·rw [Array.getElem?_eq_none h] at he; cases he
  have hik:kvs[i]?=some (kvs[i]'(by omega)):=Qc (by omega)
  have hix:xs[i]?=some (xs[i]'(by have:=Ug q4; omega)):=Qc (by have:=Ug q4; omega)
  have rv:=KT.vals kt hik hix
  have z:=entry_at q4 i
  rw [hix,he] at z
  have ev:e.val=(xs[i]'(by have:=Ug q4; omega)).2.2:=by rw [Option.some.inj z]; rfl
  have kn:(kvs[i]'(by omega)).2=.int (ns[i]'(by omega)):=by
   have y:(kvs.map (·.2))[i]?=(ns.map V.int)[i]?:=by rw [hk]
   rw [Qe,Qe,hik,Qc (show i < ns.length by omega)] at y
   exact Option.some.inj y
  rw [kn] at rv
  obtain ⟨t,et⟩:=rv
  exact ⟨t,by rw [ev,et]; show Value.int _ t=Value.int ((ns[i]?).getD 0) t; rw [Qc (show i < ns.length by omega)]; rfl⟩
 ·intro j hj
  have hj':j < ns.length:=by omega
  have e:ns[j]?=some ns[j]:=Qc hj'
  have h1:=hb _ (Xb hj')
  have h2:=aCo (ns.take (j+1)) λn hn=>hb n (Xh hn)
  rw [gZ ns _ hval (j+1) (by omega)]
  have h3:(ns.take (j+1)).length<=10000000:=by rw [Qv]; omega
  unfold InLong
  have e5:(λi:Nat=>(ns[i]?).getD 0) j=ns[j]:=by show (ns[j]?).getD 0=_; rw [e]; rfl
  rw [e5]
  have h4:((ns.take (j+1)).length:Int)*10000000000<=10000000*10000000000:=by omega
  omega
 ·have e:preSum (λi=>(ns[i]?).getD 0) es.size=aQ ns:=by
   rw [hz2,gZ ns _ hval ns.length (Qh _),Jf]
  rw [e]
  refine ⟨.int _,H1,I1.kept (h':=h') λb o e=>hk2 b o ?_ (Qa _ (Qa _ e)),⟨_,rfl⟩,q⟩
  intro z
  have z':b=s1.heap.objs.size+1:=by rw [<- hsz1]; simpa using z
  have y:=Qm e
  rw [z'] at y
  exact Ju _ (Yq y (Xx _))
end
structure KsU (ks:List (Int×Tok)) (ns:List Int):Prop where
 nd:(ks.map (·.1)).Nodup
 mem:∀ k,k∈ks.map (·.1)↔k∈ns
theorem lW:∀ {l m:List Int},l.Nodup->(∀ x∈l,x∈m)->l.length<=m.length
 | [],m,_,_=>Jr _
 | x::l,m,h,k=>by
  obtain ⟨h1,h2⟩:=Xf.mp h
  have hx:=k x (Qj ..)
  have hl:=lW (l:=l) (m:=m.erase x) h2 λy hy=>(List.mem_erase_of_ne (a:=y) (b:=x) (λe=>h1 (by rw [<- e]; exact hy))).mpr (k y (Qk _ hy))
  have he:=Wh hx
  have hp:0 < m.length:=List.length_pos_of_mem hx
  rw [Ja]
  omega
theorem KsU.few (h:KsU ks ns) (hU:U.length<=11) (k:∀ n∈ns,n∈U):ks.length<=11:=by
 have:=lW h.nd λx hx=>k x ((h.mem x).mp hx)
 rw [Qb] at this
 omega
theorem KsU.old {k:Int} (h:KsU ks ns) (q:∃ p∈ks,p.1=k):KsU ks (ns++[k]):=⟨h.nd,λx=>by
 rw [h.mem,Jh,Qo]
 refine ⟨.inl,λz=>?_⟩
 rcases z with z | z
 ·exact z
 ·obtain ⟨p,hp,e⟩:=q
  rw [z,<- e]
  exact (h.mem _).mp (Qw.mpr ⟨p,hp,rfl⟩)⟩
theorem KsU.new {k:Int} {t:Tok} (h:KsU ks ns) (q:∀ p∈ks,p.1≠k):KsU ((k,t)::ks) (ns++[k]):=⟨by
 rw [Qy]
 refine Xf.mpr ⟨λm=>?_,h.nd⟩
 obtain ⟨p,hp,e⟩:=Qw.mp m
 exact q p hp e,λx=>by
 rw [Qy,Qn,h.mem,Jh,Qo]
 exact Or.comm⟩
theorem aDH (h:Q (.ref s.heap.objs.size) { s with heap:=s.heap.push { cls:=.type "set",dict:=none,data:=.set #[] 0 (.fresh 0 0 (Led w)) } }):wpAny (model prog w) A (newSet (.type "set")) Q E s:=by
 unfold newSet setsByText
 refine Ra (Ra (Vb (Rb ?_)))
 dsimp only
 simp only [newObj]
 exact Ra (Rar (Rb h))
theorem yE {k:Int} {t:Tok} (hS:SG L s.heap a ks) (hlen:ks.length<=11) (hQ:∀ h',Heap.SameBut a s.heap h'->((∃ p∈ks,p.1=k)->SG L h' a ks)->((∀ p∈ks,p.1≠k)->SG L h' a ((k,t)::ks))->Q .none { s with heap:=h',toks:=s.toks+1 }) :
  wpAny (model prog w) A (call (.builtin "set.add") [.ref a,.int k t]) Q E s:=by
 obtain ⟨o,ep,es,tb,ho,hex,_⟩:=id hS
 have ty:s.TypeIs (.ref a) "set" := ⟨o,ho,hex.1⟩
 refine Rj F.slot_set_add ty F.entry_set_add ?_ (F.args_set_add_2 _ _)
 unfold Builtin.«set.add» Builtin.Frozenset.oneOther
 simp only [Ys,bind_assoc]
 unfold Builtin.Frozenset.addrOf
 refine Ra (Rb ?_)
 try dsimp only
 refine Ra (Rb ?_)
 try dsimp only
 refine Ra (aDB hS (by omega) λh' b sb x1 x2=>?_)
 show wpAny _ _ (ret Value.none) _ _ _
 exact Rb ⟨_,rfl,hQ h' sb x1 x2⟩
theorem vQ (elt target iter:Expr) (ifs:List Expr) (scope:Scope) (pos:Pos) (it:Value) (D:Addr) (env:Env) :
  compTurn (.SetComp elt [⟨target,iter,ifs,0⟩] scope pos) 0 it (.ref D) env=(do
   standAt iter.pos
   match<-pyNext it with
   | none=>pure (.done .next)
   | some v =>
    letOwnedTupleGo target it v
    assign target env v
    let mut ok:=true
    for c in ifs do
     if ok then ok<-isTrue c env (eval c env)
    if ok then
     (do
      let u<-eval elt env
      standAt elt.pos
      let _<-call (.builtin "set.add") [.ref D,u])
    again (.compLoop (.SetComp elt [⟨target,iter,ifs,0⟩] scope pos) 0 it (.ref D) env)):=by rfl
theorem tH {elt target iter ifs kX scope pos it acc env} (h0:codeAny (model prog w) A (.compLoop (.SetComp elt (⟨target,iter,ifs,0⟩::kX) scope pos) 0 it acc env) R s) (h:wpAny (model prog w) A (pyIter it) (λit' s'=>codeAny (model prog w) A (.compLoop (.SetComp elt (⟨target,iter,ifs,0⟩::kX) scope pos) 0 it' acc env) R s') (notedBy (model prog w) A env λx s'=>R (.error x) s') s) :
  codeAny (model prog w) A (.compStart (.SetComp elt (⟨target,iter,ifs,0⟩::kX) scope pos) 0 it acc env) R s:=by
 refine Vu ?_
 show wpAny _ A ((compStart (.SetComp elt (⟨target,iter,ifs,0⟩::kX) scope pos) 0 it acc env).onRaise (λx=>do noteFrame x env; standAt theWindowsPlace)) _ _ s
 refine wpAny_notedAt ?_
 unfold compStart
 show wpAny _ A (ask >>= _) _ _ s
 refine Ra (Vb (wpAny_ite ?_))
 split
 ·first
   | exact Ra (Rb (Rb (And.intro rfl h0)))
   | exact Rb (And.intro rfl h0)
 ·first
   | exact Ra (Tu (Ra (Tg (Ra (Rn h (λit' s' h'=>Rb (And.intro rfl h')) λ_ _ x=>x)))))
   | (refine Ra (Tu ?_); show wpAny _ _ (standAt iter.pos >>= _) _ _ s; exact Ra (Tg (Ra (Rn h (λit' s' h'=>Rb (And.intro rfl h')) λ_ _ x=>x))))
def PS1 (U:List Int) (te:TE) (ys:List Int) (σ:St) (H:Hp) (R:List Int->St->Hp->Prop):Prop:=te σ H λy H4=>∃ k,y=.int k/\k∈U/\R (ys++[k]) σ H4
def aGw (w:World) (own:Nat) (fr:List Nat) (wi:TI) (g:TG) (tt:TT) (te:TE) (U:List Int):TE:=λσ H Q=>wi σ H λJ H1=>Wlk J [] (blk own fr σ) H1 (λys _ H=>∀ p us,H p=none->us.Nodup->(∀ k,k∈us↔k∈ys)->us.length<=11->Q (.ref p) (upd H p (vP w p us))) g tt (PS1 U te)
def OkS (w:World) (U:List Int) (D:Addr) (ys:List Int) (h:Heap):Prop:=(∀ n∈ys,n∈U)/\∃ its,KsU its ys/\SG (Led w) h D its
section
variable {fr:List Nat} {wi:TI}
def bdS (elt:Expr) (env:Env) (D:Addr):Sem Unit:=do
 let u<-eval elt env
 standAt elt.pos
 let _<-call (.builtin "set.add") [.ref D,u]
theorem aHv:LoopOk P w A (.SetComp elt [⟨tg,iter,ifs,0⟩] scope pos) 0 tg iter ifs (bdS elt) where
 und:=λ_ _ _=>⟨rfl,rfl⟩
 turn:=λit D env=>vQ elt tg iter ifs scope pos it D env
 start:=tH
theorem aGx:AccOk P w A (newSet (.type "set")) [] (OkS w U) where
 new:=⟨{ cls:=.type "set",dict:=none,data:=.set #[] 0 (.fresh 0 0 (Led w)) },λv z=>(by cases z),rfl,λh D e=>⟨λ_ h=>(Qs h).elim,[],⟨Ya,λk=>by simp⟩,_,0,#[],_,e,⟨rfl,rfl,rfl⟩,rfl,List.Perm.refl _,⟨.inl ⟨rfl,Jr _⟩,rfl,rfl,rfl,rfl,List.Pairwise.nil⟩⟩,λh=>aDH h⟩
 keep:=λ⟨hl,its,v,d⟩ f=>⟨hl,its,v,d.keep f⟩
 obj:=λ⟨_,its,_,o,ep,es,tb,h1,h2,h3,_⟩=>⟨o,h1,λv z=>by rw [h3] at z; cases z⟩
theorem aHw (hU:U.length<=11) (he:PE Y elt te):lF Y (bdS elt) (OkS Y.w U) (PS1 U te):=by
 intro ps s σ H D o ys R dn I pl h
 refine Ra (thn (he _ s σ H _ I h) λy s1 hx=>Ra (Tg (Ra ?_)))
 obtain ⟨yv,H1,I1,r1,k,ek,hkU,q⟩:=hx
 subst ek
 obtain ⟨tk,rfl⟩:∃ t,y=Value.int k t:=r1
 obtain ⟨z5,its,v,d⟩:=aGx.stay I I1 pl
 refine yE d (v.few hU z5) λh11 sb11 x1 x2=>Rb ?_
 have ok:OkS Y.w U D (ys++[k]) h11:=by
  refine ⟨λn hn=>?_,?_⟩
  ·rcases Jh.mp hn with h | h
   ·exact z5 n h
   ·rw [Qo.mp h]; exact hkU
  by_cases hkm:∃ p∈its,p.1=k
  ·exact ⟨its,v.old hkm,x1 hkm⟩
  ·exact ⟨(k,tk)::its,v.new λp hp e=>hkm ⟨p,hp,e⟩,x2 λp hp e=>hkm ⟨p,hp,e⟩⟩
 obtain ⟨o',I'⟩:=dn.put aGx I1 sb11 ok
 exact ⟨σ,H1,_,o',I',ok,q⟩
theorem aDI (hU:U.length<=11) (S:CompOk X scope z own fr frn) (hc:X.calm=true) (hi:PI X tg iter wi) (hg:∀ C s0 H0 fp,PG (bP X scope z (own++frn) C s0 H0 fp) tg g) (ht:∀ C s0 H0 fp,PF (bP X scope z (own++frn) C s0 H0 fp) ifs tt)
  (he:∀ C s0 H0 fp,PE (bP X scope z (own++frn) C s0 H0 fp) elt te) (hs:∀ x,foldedSetIterable iter X.env x=pure x:=by intro _; rfl) :
  PE X (.SetComp elt [⟨tg,iter,ifs,0⟩] scope pos) (aGw X.w own.length fr wi g tt te U) :=
 qX S rfl aHv aGx hc (arm_eval_SetComp ..) hi hg ht (λC s0 H0 fp=>aHw hU (he C s0 H0 fp)) hs λ{D a H h Q} ⟨z5,its,v,d⟩ hn _ q=>⟨vP X.w D (its.map (·.1)),by
  obtain ⟨o,ep,es,t,e1,r1⟩:=id d
  exact ⟨⟨its,d,⟨v.1,λk=>Iff.rfl,by rw [Qb]; exact Qh _⟩⟩,⟨o,e1⟩,λh1 h2 ⟨ks,z,y⟩ k=>⟨ks,z.keep k,y⟩⟩,q D _ hn v.1 v.2 (by rw [Qb]; exact v.few hU z5)⟩
end
def aA9 (w:World) (own:Nat) (fr:List Nat) (td:TE) (g:TG) (tt:TT) (te:TE):TE:=λσ H Q=>∃ U:List Int,U.length<=11/\td σ H λx H1=>∃ a kvs,x=.ref a/\H1 a=some (.dT kvs)/\∀ o:Obj,Wlk (Itx a o kvs) [] (blk own fr σ) (upd H1 a (.frz o (.dT kvs))) (λys _ H=>∀ p us,H p=none->us.Nodup->(∀ k,k∈us↔k∈ys)->us.length<=11->Q (.ref p) (upd (upd H p (vP w p us)) a (.dT kvs))) g tt (PS1 U te)
section
variable {fr:List Nat} {d:Expr}
theorem aCp (S:CompOk X scope z own fr frn) (hc:X.calm=true) (hi:PE X d td) (hg:∀ C s0 H0 fp,PG (bP X scope z (own++frn) C s0 H0 fp) tg g) (ht:∀ C s0 H0 fp,PF (bP X scope z (own++frn) C s0 H0 fp) ifs tt)
  (he:∀ C s0 H0 fp,PE (bP X scope z (own++frn) C s0 H0 fp) elt te) (hs:∀ x,foldedSetIterable d X.env x=pure x:=by intro _; rfl) :
  PE X (.SetComp elt [⟨tg,d,ifs,0⟩] scope pos) (aA9 X.w own.length fr td g tt te):=by
 intro pins s σ H Q I ⟨U,hU,h⟩
 refine yB (aDI hU S hc (rK (aFO hi)) hg ht he hs) pins s σ H Q I ⟨_,h,λx H1 q=>?_⟩
 obtain ⟨a,kvs,ex,hx,k⟩:=q
 refine ⟨a,kvs,ex,hx,λo nf=>?_⟩
 obtain ⟨W,w0,wk⟩:=k o
 refine ⟨W,w0,λi m ys σ' H' w=>?_⟩
 rcases wk i m ys σ' H' w with ⟨st,q⟩ | z
 ·refine .inl ⟨st,λp us hp h1 h2 h3=>⟨a,o,kvs,?_,nf,q p us hp h1 h2 h3⟩⟩
  rw [aH (λz=>by rw [<- z,st.1] at hp; cases hp)]
  exact st.1
 ·exact .inr z
end
theorem yF {own:Nat} {fr:List Nat} {σ:St} {Q:Hp->List Int->Prop} (SH:St->Prop) (Pv:Nat->List Int->Hp->Prop) (hσ:SH (blk own fr σ)) (h0:Pv 0 [] H) (hl:∀ i ys H,Pv i ys H->H a=some (.frz o (.dT kvs))) (hs:∀ i ys σ p b H,kvs[i]?=some p->H b=some (.tup (p.1.map kV))->SH σ->Pv i ys H->g (.ref b) σ H λσ2 H2=>tt σ2 H2 λc H3=>if c=true then te σ2 H3 λy H4=>∃ k,y=.int k/\k∈U/\SH σ2/\Pv (i+1) (ys++[k]) H4 else SH σ2/\Pv (i+1) ys H3) (hd:∀ ys H,Pv kvs.length ys H->Q H ys) :
  Wlk (Itx a o kvs) [] (blk own fr σ) H (λys _ H=>Q H ys) g tt (PS1 U te) :=
 vB kvs.length SH Pv hσ h0 (λys H p=>⟨hl _ _ _ p,rfl⟩) (λi ys H hi p=>⟨hl _ _ _ p,hi⟩) (λi ys σ x H H' hi sh p y=>by
  obtain ⟨rfl,v,b,hv,rfl,hb⟩:=y
  exact hs i ys σ v b _ hv hb sh p) hd
def aHx:V->List V->Hp->VK->Prop:=λx vs H Q=>∃ (a b:Addr) (kvs:List (List Key×V)) (k:List Key) (df:V),x=.ref a/\vs = [.ref b,df]/\Rd H a (.dT kvs)/\H b=some (.tup (k.map kV))/\Q ((dJ kvs k).getD df) H
theorem aE8 (hu:X.A.units+1 < cLine):MtR X "dict.get" aHx:=by
 intro pins s σ H x vs v us Q I rx rv h
 obtain ⟨a,b,kvs,k,df,rfl,rfl,e,eb,q⟩:=h
 cases rx
 obtain ⟨u,ud,rfl,ru,rd⟩:=pU rv
 cases (show u=Value.ref b from ru)
 obtain ⟨z,hd,xs,rel,dd⟩:=xP I.hok e
 refine call_meetsIn Mr dd.typeIs PySem.F.entry_dict_get (PySem.F.args_dict_get_3 _ _ _) (meetsH_dict_get_default (tupleKind (cA X.prog X.w)) a b hd ud) ⟨Vj hu,k,xs,lJ I.hok eb,dd,?_⟩
 have rel2:=rel.val k
 cases hv:dJ kvs k with
 | some y =>
  rw [hv] at q
  obtain ⟨w',hw,rw'⟩:=mG.some_of (v:=y) (o:=(atKey xs k).map (·.2)) (by rw [<- hv]; exact rel2)
  exact ⟨y,H,I.tok _,by rw [hw]; exact rw',q⟩
 | none =>
  rw [hv] at q
  have hn:(atKey xs k).map (·.2)=none:=mG.none_of (by rw [<- hv]; exact rel2)
  exact ⟨df,H,I.tok _,by rw [hn]; exact rd,q⟩
def aDJ (K:Rc):R2:=λx y H Q=>∃ a b xs ys,x=.ref a/\y=.ref b/\SqT K H a xs/\SqT K H b ys/\xs.length+ys.length<=sizeLine/\(xs = []->Q (.ref b) H)/\(xs≠[]->ys = []->Q (.ref a) H)/\(xs≠[]->ys≠[]->∀ p,H p=none->Q (.ref p) (upd H p (.tup (xs++ys))))
theorem aBa (hK:X.K=K):OpR X (binaryOp .Add) (aDJ K):=by
 subst hK
 intro pins s σ H x y v u Q I rx ry h
 obtain ⟨a,b,xs,ys,rfl,rfl,ha,hb,hz,q1,q2,q3⟩:=h
 by_cases hx:xs = []
 ·have q:=q1 hx
  subst hx
  cases rx
  cases ry
  obtain ⟨its,r1,⟨⟨cls,dd,data,sl⟩,ho,hc,n,hd⟩,_⟩:=I.tuple ha
  obtain ⟨its2,r2,⟨⟨cls2,dd2,data2,sl2⟩,ho2,hc2,n2,hd2⟩,_⟩:=I.tuple hb
  simp only at hc hd hc2 hd2
  subst hc hd hc2 hd2
  cases r1
  exact Iw ⟨_,ho,rfl⟩ ⟨_,ho2,rfl⟩ Vp Ie Up Ul (Uk _ _) (mJ a b _ _ n n2 dd dd2 sl sl2 rfl) ⟨ho,ho2,⟨.ref b,H,I,rfl,q⟩⟩
 ·exact aAW pins s σ H _ _ v u Q I rx ry ⟨a,b,xs,ys,rfl,rfl,ha,hb,hx,hz,λe=>q2 hx e,λe p hp=>q3 hx e p hp⟩
theorem aE9 {Q:VK} (ha:SqT K H a xs) (hb:H b=some (.tup [y])) (hz:xs.length<=1000) (k:∀ p H',aD H H'->H' p=some (.tup (xs++[y]))->Q (.ref p) H'):aDJ K (.ref a) (.ref b) H Q :=
 ⟨a,b,xs,[y],rfl,rfl,ha,SqT.of hb,by rw [Rf]; show _+1<=_; omega,λe=>k b H (aD.refl H) (by rw [e]; exact hb),λ_ e=>absurd e (by simp),λ_ _ p hp=>k p _ (aD.new hp) aB⟩
theorem aDK {Q:VK} (ha:H a=some (.tup xs)) (hx:xs≠[]) (hb:SqT K H b ys) (hz:xs.length+ys.length<=1000) (k:∀ p H',aD H H'->H' p=some (.tup (xs++ys))->Q (.ref p) H'):aDJ K (.ref a) (.ref b) H Q :=
 ⟨a,b,xs,ys,rfl,rfl,SqT.of ha,hb,by rw [Rf]; omega,λe=>absurd e hx,λ_ e=>k a H (aD.refl H) (by rw [e,Zk]; exact ha),λ_ _ p hp=>k p _ (aD.new hp) aB⟩
def aHy:R2:=λx y H Q=>∃ a,∃ k:Nat,∃ xs,x=.ref a/\y=.int k/\H a=some (.tup xs)/\xs≠[]/\1<=k/\k<=1000/\xs.length<=1000/\∀ p H',aD H H'->H' p=some (.tup (List.replicate k xs).flatten)->Q (.ref p) H'
theorem aFa:OpR X (binaryOp .Mult) aHy:=by
 intro pins s σ H x y v u Q I rx ry h
 obtain ⟨a,k,xs,rfl,rfl,ha,hx,h1,h2,hz,q⟩:=h
 cases rx
 obtain ⟨t,rfl⟩:=ry
 obtain ⟨its,r,⟨⟨cls,dd,data,sl⟩,ho,hc,n,hd⟩,hzz⟩:=I.tuple (SqT.of ha)
 simp only at hc hd
 subst hc hd
 have hl:=r.length
 refine Raa (T := "tuple") (U := "int") (by decide) ⟨_,ho,rfl⟩ (λs'=>Ip s' k t) oX PySem.F.fills_int_mul Ms vC PySem.F.slot_int_index.lookup
  (Va Ms (Ip s k t) PySem.F.entry_int_rmul (PySem.F.args_int_rmul_2 _ _) (rD k t a its.toArray n dd sl) ⟨ho,rfl,⟨_,ho,rfl⟩,?_⟩)
 by_cases hk1:k=1
 ·subst hk1
  refine Va PySem.F.slot_tuple_mul ⟨_,ho,rfl⟩ Mf (Mb _ _) (tG a its.toArray n dd sl t) ⟨ho,?_⟩
  exact ⟨.ref a,H,I,rfl,q a H (aD.refl H) (by simpa using ha)⟩
 ·have hne:its.toArray.isEmpty=false:=by
   cases its with
   | nil=>cases r; exact absurd rfl hx
   | cons _ _=>rfl
  refine Va PySem.F.slot_tuple_mul ⟨_,ho,rfl⟩ Mf (Mb _ _) (rC a its.toArray n dd sl k t (by omega) (by omega) hne (by rw [Ql]; omega)) ⟨ho,?_⟩
  have hnew:List.foldl (λx1 x2=>x1++x2) #[] (List.replicate ((k:Int)).toNat its.toArray)=(List.replicate k its).flatten.toArray:=by
   have z:=lV its k []
   rw [Zw] at z
   rw [Jj]
   exact z
  rw [hnew]
  have hlen:(List.replicate k xs).flatten.length<=sizeLine:=by
   rw [uY,Rf]
   have:k*xs.length<=1000*1000:=Zj h2 hz
   omega
  refine ⟨.ref _,_,I.laid (t':=s.toks) (o:=.tup (List.replicate k xs).flatten) (λb ob q=>Qa _ q) (Qh _) ?_,rfl,q _ _ (aD.new (I.hok.fresh (Qh _))) aB⟩
  exact ⟨hlen,(List.replicate k its).flatten,0,r.rep k,Qg _ rfl⟩
theorem aCq {S:Addr} {wr:List Addr} {P:Nat->Value->Prop} {St:Nat->Heap->Prop} (W:Walks prog w A.in1 I fp wr ns.length P St) (hP:∀ i v,P i v->∃ k t,ns[i]?=some k/\v=.int k t) (hfp:∀ c∈fp,c≠S) (hwr:S∉wr) (hU:U.length<=11) (hlen:∀ n∈ns,n∈U) :
  ∀ (j i:Nat) (s:Shared) (ks:List (Int×Tok)),i+j=ns.length->St i s.heap->SG L s.heap S ks->KsU ks (ns.take i) ->
   (∀ h' tk ks,SG L h' S ks->KsU ks ns->(∀ b o,b≠S->b∉wr->s.heap.get? b=some o->h'.get? b=some o)->R (.ok (.ret .none)) { s with heap:=h',toks:=tk }) ->
   codeAny (model prog w) A (.builtin "set.update.loop" ⟨[.ref S,.ref I],[]⟩) R s:=by
 intro j
 induction j with
 | zero =>
  intro i s ks hi st hS hk h
  have e:i=ns.length:=by omega
  subst e
  rw [Jf] at hk
  exact xE W st λh' tk k=>h h' tk ks (hS.keep λo e=>k S o hwr e) hk λb o _ hb e=>k b o hb e
 | succ j ih =>
  intro i s ks hi st hS hk h
  refine xD W (i:=i) (by omega) st λv h2 tk2 hv st2 k2=>?_
  obtain ⟨k,t,hn,rfl⟩:=hP i v hv
  have hl:=hk.few hU λn hn=>hlen n (Xh hn)
  have et:ns.take (i+1)=ns.take i++[k]:=by rw [Jd,hn]; rfl
  refine aDB (s:={ s with heap:=h2,toks:=tk2 }) (hS.keep λo e=>k2 S o hwr e) (by omega) λh3 b sb x1 x2=>?_
  have st3:=W.frame _ _ _ st2 λc hc o e=>(sb.2 c (hfp c hc)).trans e
  by_cases hkm:∃ p∈ks,p.1=k
  ·exact ih (i+1) _ ks (by omega) st3 (x1 hkm) (by rw [et]; exact hk.old hkm) λh' tk ks' y1 y2 kp=>h h' tk ks' y1 y2 λb o nb hb e=>kp b o nb hb ((sb.2 b nb).trans (k2 b o hb e))
  ·have hno:∀ p∈ks,p.1≠k:=λp hp e=>hkm ⟨p,hp,e⟩
   exact ih (i+1) _ ((k,t)::ks) (by omega) st3 (x2 hno) (by rw [et]; exact hk.new hno) λh' tk ks' y1 y2 kp=>h h' tk ks' y1 y2 λb o nb hb e=>kp b o nb hb ((sb.2 b nb).trans (k2 b o hb e))
set_option maxHeartbeats 3200000 in
theorem vR {l:Addr} {its:Array Value} (hh:A.handled=none) (hl:s.heap.IsList l its) (hi:IntsAre its.toList ns) (hU:U.length<=11) (hlen:∀ n∈ns,n∈U) (h:∀ (h':Heap) (tk:Nat) (ks:List (Int×Tok)),SG (Led w) h' s.heap.objs.size ks->KsU ks ns->(∀ b o,b < s.heap.objs.size->s.heap.get? b=some o->h'.get? b=some o)->Q (.ref s.heap.objs.size) { s with heap:=h',toks:=tk }) :
  wpAny (model prog w) A (call (.type "set") [.ref l]) Q E s:=by
 obtain ⟨c,tl,hmro⟩:=PySem.F.called_set.mro
 have hmade:=PySem.F.called_set.made
 have hsub:=PySem.F.called_set.sub
 refine Im (Vu ?_)
 show wpAny _ _ (callAny (.type "set") _) _ _ _
 refine Rb ⟨Code.quiet_builtin _ (by decide +kernel),Ta Md ?_⟩
 rw [Around.under_plain (Ral "set" [.ref l] []) rfl]
 have h1:=PySem.F.called_set.notType
 have h2:=PySem.F.called_set.canCreate
 have hct:=Mi (.ref l)
 repeat (any_goals (first | assumption | wp_step))
 refine Uo (lG (.ref l) (E:=E) (Q₁:=λobj s1x=>obj=.ref s.heap.objs.size/\s1x={ s with heap:=s.heap.push { cls:=.type "set",dict:=none,data:=.set #[] 0 (.fresh 0 0 (Led w)) } }) ⟨rfl,rfl⟩) λr s1x hr=>?_
 cases r with
 | error e=>exact hr
 | ok fl =>
  cases fl with
  | ret obj =>
   obtain ⟨rfl,rfl⟩:=hr
   generalize hled:Led w=led at h ⊢
   have hS:(s.heap.push { cls:=.type "set",dict:=none,data:=.set #[] 0 (.fresh 0 0 led) }).get? s.heap.objs.size=some { cls:=.type "set",dict:=none,data:=.set #[] 0 (.fresh 0 0 led) }:=Qg _ rfl
   have hT:Shared.TypeIs { s with heap:=s.heap.push { cls:=.type "set",dict:=none,data:=.set #[] 0 (.fresh 0 0 led) } } (.ref s.heap.objs.size) "set" := ⟨_,hS,rfl⟩
   have hli:=PySem.F.called_set.init.lookup
   have hbi:=PySem.F.called_set.init.bind (.ref s.heap.objs.size)
   repeat (any_goals (first | assumption | wp_step))
   refine Uo (Vz (R:=wants (λr s2x=>r=.none/\∃ h' tk ks,s2x={ s with heap:=h',toks:=tk }/\SG led h' s.heap.objs.size ks/\KsU ks ns /\
     (∀ b o,b < s.heap.objs.size->s.heap.get? b=some o->h'.get? b=some o)) E) PySem.F.called_set.init.plain Mj (RaH hT ?_)) λr2x s2x hr2x=>?_
   ·obtain ⟨ol,hol,hcl,nl,hdl⟩:=hl
    obtain ⟨ocls,odict,odata,oslots⟩:=ol
    simp only at hcl hdl
    subst hcl; subst hdl
    have hol':(s.heap.push { cls:=.type "set",dict:=none,data:=.set #[] 0 (.fresh 0 0 led) }).get? l=some { cls:=.type "list",dict:=odict,data:=.seq its nl,slots:=oslots }:=Qa _ hol
    have hsls:=Mt
    have hslf:=Iu
    have hne:(Value.type "list" == Value.type "dict")=false:=by decide
    have hl1:(s.heap.push { cls:=.type "set",dict:=none,data:=.set #[] 0 (.fresh 0 0 led) }).IsList l its:=⟨_,hol',rfl,nl,rfl⟩
    unfold Builtin.«set.__init__» noKeywords Builtin.Frozenset.updateFrom
    generalize hPI:pyIter=PI
    wp_walk
    subst hPI
    refine Tq hl1 ?_
    refine Ra (Mv ?_)
    have hlS:l < s.heap.objs.size:=Qm hol
    have hh3:A.in1.in1.in1.handled=none:=by simp [hh]
    generalize hH1:s.heap.push { cls:=.type "set",dict:=none,data:=.set #[] 0 (.fresh 0 0 led) }=H1 at *
    have szH1:H1.objs.size=s.heap.objs.size+1:=by rw [<- hH1,Jk]
    have hneI:l≠H1.objs.size:=by rw [szH1]; exact Qz (Jx hlS)
    have W:=Walks.list (prog:=prog) (w:=w) hh3 H1.objs.size l hneI its
    have hsz:its.size=ns.length:=by rw [<- hi.length,Array.length_toList]
    rw [hsz] at W
    generalize hS0:s.heap.objs.size=S at *
    have SI:S≠H1.objs.size:=by omega
    have lS:l≠S:=Qz hlS
    refine aCq (L:=led) W (λi v hv=>?_) (λc hc=>?_) (by simpa using SI) hU hlen ns.length 0 _ [] (by omega) ⟨⟨_,Qg _ rfl,rfl,rfl⟩,hl1.push _⟩ ?_ ⟨Ya,λk=>by simp⟩ λh6 tk6 ks6 x6 y6 k6=>?_
    ·have hv':its[i]?=some v:=hv
     have hil:i < its.toList.length:=by
      rw [Array.length_toList]
      exact (Array.getElem?_eq_some_iff.mp hv').1
     have e1:its.toList[i]?=some v:=by rw [Array.getElem?_toList]; exact hv'
     obtain ⟨k,t,e2,e3⟩:=IntsAre.at hi i v e1
     exact ⟨k,t,e3,e2⟩
    ·rcases Qn.mp hc with z | z
     ·rw [z]; exact Ne.symm SI
     ·have z':c=l:=by simpa using z
      rw [z']; exact lS
    ·exact ⟨_,0,#[],_,Qa _ hS,⟨rfl,rfl,rfl⟩,rfl,List.Perm.refl _,⟨.inl ⟨rfl,Jr _⟩,rfl,rfl,rfl,rfl,List.Pairwise.nil⟩⟩
    ·show wpAny _ _ _ _ _ _
     refine Rb ?_
     show wpAny _ _ (ret Value.none) _ _ _
     refine Rb ⟨rfl,h6,tk6,ks6,rfl,x6,y6,λc o hc e=>?_⟩
     have c1:c≠S:=Qz hc
     have c2:c∉[H1.objs.size]:=by
      intro z
      have z':c=H1.objs.size:=by simpa using z
      omega
     exact k6 c o c1 c2 (Qa _ (hH1 ▸ Qa _ e))
   ·cases r2x with
    | error e=>exact hr2x
    | ok fl2 =>
     cases fl2 with
     | ret r =>
      obtain ⟨rfl,h',tk,ks,rfl,hS',hK',hk'⟩:=hr2x
      repeat (any_goals (first | assumption | wp_step))
      exact h _ _ _ hS' hK' hk'
     | _=>exact hr2x.elim
  | _=>exact hr.elim
theorem mY (hw:X.w=w) (hK:X.K=K) (hc:X.calm=true):dM X (.type "set") (λxs H Q=>∃ (l:Addr) (ns U:List Int),xs = [.ref l]/\SqL K H l (ns.map V.int)/\U.length<=11/\(∀ n∈ns,n∈U)/\∀ p us,H p=none->us.Nodup->(∀ k,k∈us↔k∈ns)->us.length<=11->Q (.ref p) (upd H p (vP w p us))):=by
 subst hK hw
 intro pins s σ H xs us Q I r h
 obtain ⟨l,ns,U,rfl,hL,hU,hn,q⟩:=h
 obtain ⟨u,rfl,rx⟩:=fX r
 cases rx
 obtain ⟨its,rv,pl,hz⟩:=I.list hL
 refine vR (I.ok.hd hc) pl.isList (oY rv) hU hn λh' tk ks x y kp=>?_
 have kp':∀ b o,s.heap.get? b=some o->h'.get? b=some o:=λb o e=>kp b o (Qm e) e
 have hf:=I.hok.fresh (Qh s.heap.objs.size)
 refine ⟨.ref s.heap.objs.size,_,I.laid (t':=tk) kp' (Qh _) ?_,rfl,q _ (ks.map (·.1)) hf y.1 y.2 (by rw [Qb]; exact y.few hU hn)⟩
 refine ⟨⟨ks,x,⟨y.1,λk=>Iff.rfl,by rw [Qb]; exact Qh _⟩⟩,?_,λh1 h2 ⟨ks,z,y⟩ k=>⟨ks,z.keep k,y⟩⟩
 obtain ⟨o,ep,es,t,e,_⟩:=x
 exact ⟨o,e⟩
structure Fn (K:Rc) (mg:Str->Option Value) (x:Str) (st:Stmt) (ps:List Str) (f:Addr) (fd:FuncData):Prop where
 fn:Fun K x x st f fd
 mgx:mg x=some (.ref f)
 kp:Tn K (.ref f)=true
 bd:tO K fd ps []
theorem bF {x:Str} {k:Nat} {t:TA} (G:Fn X.K X.mg x st ps f fd) (ok:FnOk X.prog X.w X.K X.mg X.base CX0 k f fd ps sp) (hr:Room k X.A) (hg:Gl X x) (ha:PA X (e::es) t) (hdb:(x==("__debug__" : Str))=false:=by decide) (he:starEach (e::es) X.env=(false,eval e X.env)::starEach es X.env:=by rfl) (hpl:(backTo pos (starEach es X.env)).any (·.1)=false:=by rfl) :
  PE X (.Call (.Name x p) (e::es) [] pos) (aFF sp [] E0 t):=aED ok hr hg G.mgx G.kp G.bd .nil aHa ha hdb he hpl
structure Bl (mg:Str->Option Value):Prop where
 isinstance:mg "isinstance" = none
 int:mg "int" = none
 bool:mg "bool" = none
 tuple:mg "tuple" = none
 list:mg "list" = none
 len:mg "len" = none
 all:mg "all" = none
 zip:mg "zip" = none
 range:mg "range" = none
 sorted:mg "sorted" = none
 set:mg "set" = none
 sum:mg "sum" = none
 repr:mg "repr" = none
 enumerate:mg "enumerate" = none
 min:mg "min" = none
 hands:∃ t,mg "MOST_HANDS" = some (.int 6 t)
 works:∃ t,mg "MOST_WORKS" = some (.int 12 t)
theorem hJ:bootBuiltins "isinstance" = some (.builtin "isinstance"):=by decide +kernel
theorem aBb:bootBuiltins "int" = some (.type "int"):=by decide +kernel
theorem aAi:bootBuiltins "bool" = some (.type "bool"):=by decide +kernel
theorem cM:bootBuiltins "tuple" = some (.type "tuple"):=by decide +kernel
theorem vS:bootBuiltins "list" = some (.type "list"):=by decide +kernel
theorem eV:bootBuiltins "len" = some (.builtin "len"):=by decide +kernel
theorem pY:bootBuiltins "all" = some (.builtin "all"):=by decide +kernel
theorem aFb:bootBuiltins "range" = some (.type "range"):=by decide +kernel
theorem jW:bootBuiltins "sorted" = some (.builtin "sorted"):=by decide +kernel
theorem aBc:bootBuiltins "set" = some (.type "set"):=by decide +kernel
theorem aDL:bootBuiltins "sum" = some (.builtin "sum"):=by decide +kernel
theorem aDM:bootBuiltins "repr" = some (.builtin "repr"):=by decide +kernel
end L2
namespace Ab
open PySem L2
def top (i:Nat):Stmt:=PySem.Challenge.pw_ablehands_k14_what_evenest_deals_have.main.body.getD i (.Pass ⟨0,0,0,0⟩)
abbrev mZ:Stmt:=top 8
abbrev rM:Stmt:=top 9
abbrev rN:Stmt:=top 10
abbrev rO:Stmt:=top 11
abbrev vT:Stmt:=top 12
abbrev aAj:Stmt:=top 13
abbrev aAk:Stmt:=top 14
abbrev lK:Stmt:=top 16
abbrev aAl:Stmt:=top 17
abbrev nR:Stmt:=top 18
abbrev lL:Stmt:=top 20
abbrev nS:Stmt:=top 21
abbrev vU:Stmt:=top 22
abbrev uA:Stmt:=top 24
abbrev aAm:Stmt:=top 25
abbrev vV:Stmt:=top 26
abbrev aBd:Stmt:=top 27
abbrev aDN:Stmt:=top 29
abbrev iP:Stmt:=top 30
abbrev jX:Stmt:=top 31
abbrev qL:Stmt:=top 33
abbrev rP:Stmt:=top 34
abbrev vW:Stmt:=top 35
abbrev iX:Stmt:=top 36
abbrev hV:Stmt:=top 37
abbrev nT:Stmt:=top 38
abbrev aBe:Stmt:=top 40
abbrev pD:Stmt:=top 41
abbrev uB:Stmt:=top 42
abbrev aBf:Stmt:=top 43
abbrev vX:Stmt:=top 45
abbrev nU:Stmt:=top 46
abbrev rQ:Stmt:=top 47
abbrev jY:Stmt:=top 48
abbrev aFc:Stmt:=top 49
abbrev uC:Stmt:=top 50
abbrev iC:Stmt:=top 51
abbrev yG:Stmt:=top 52
abbrev aGy:Stmt:=top 53
def gU:PyData->Bool
 | .int _=>true
 | _=>false
def iY:PyData->Bool
 | .int i=>decide (1<=i) && decide (i<=6)
 | _=>false
def eD (hands:Int):Int->List PyData->Bool
 | _,[]=>true
 | last,.int i::r=>decide (last < i) && decide (i < hands) && eD hands i r
 | _,_::_=>false
def cO (hands:Int):PyData->Bool
 | .tuple ds=>!ds.isEmpty && eD hands (-1) ds
 | _=>false
def aGz:PyData->PyData->Bool
 | .int h,.tuple ws=>decide (1<=h) && decide (h<=6) && decide (ws.length<=12) && ws.all (cO h)
 | _,_=>false
def bC:PyData->Bool
 | .tuple [dh,dw]=>aGz dh dw
 | _=>false
def nV (K:Rc):Sp:=λvs H Q _=>∃ x d,vs = [x]/\Den K H d x/\Q (.bl (gU d)) H
theorem aFd:FnScope ["thing"] ["thing"] (aG mZ):=⟨rfl,rfl,rfl,by decide +kernel,rfl,by decide +kernel,by decide +kernel⟩
theorem nW (G:Fn K mg "is_whole" mZ ["thing"] f fd) (B:Bl mg):FnOk P w K mg base CX0 1 f fd ["thing"] (nV K):=by
 refine G.fn.ok aFd (λvs H Q E h=>?_) (λcdv A outer s H vs Q E hr h=>?_)
 ·obtain ⟨x,d,rfl,_⟩:=h
  rfl
 ·obtain ⟨x,d,rfl,hd,k⟩:=h
  refine ⟨_,aJ (aX (kF (aM iH rfl B.isinstance hJ (aA (pv 0) (aA (dQ (v:=.ty "int") rfl B.int aBb rfl) aC)))
   (mT (aF1 (aM jH rfl B.isinstance hJ (aA (pv 0) (aA (dQ (v:=.ty "bool") rfl B.bool aAi rfl) aC))))))),?_⟩
  refine ⟨_,rfl,x,iB d,rfl,hd.kd,_,rfl,?_⟩
  refine cU (λc=>?_) (λc=>?_)
  ·refine ⟨_,rfl,x,iB d,rfl,hd.kd,_,rfl,?_⟩
   have e:(!decide (iB d=Kd.bl))=gU d:=by
    cases d <;> first | rfl | (exfalso; simp [iB] at c)
   rw [e]
   exact k
  ·have e:false=gU d:=by
    cases d <;> first | rfl | (exfalso; simp [iB] at c)
   rw [e]
   exact k
def aBg (K:Rc):Sp:=λvs H Q _=>∃ x d,vs = [x]/\Den K H d x/\Q (.bl (iY d)) H
theorem aFe:FnScope ["thing"] ["thing"] (aG rM):=⟨rfl,rfl,rfl,by decide +kernel,rfl,by decide +kernel,by decide +kernel⟩
theorem aDO (G:Fn K mg "are_hands" rM ["thing"] f fd) (B:Bl mg) (W:Fn K mg "is_whole" mZ ["thing"] fW fdW):FnOk P w K mg base CX0 2 f fd ["thing"] (aBg K):=by
 have GW:FnOk P w K mg base CX0 1 fW fdW ["thing"] (nV K):=nW W B
 obtain ⟨t6,h6⟩:=B.hands
 refine G.fn.ok aFe (λvs H Q E h=>?_) (λcdv A outer s H vs Q E hr h=>?_)
 ·obtain ⟨x,d,rfl,_⟩:=h
  rfl
 ·obtain ⟨x,d,rfl,hd,k⟩:=h
  refine ⟨_,aJ (aX (kF (bF W GW hr rfl (aA (pv 0) aC))
   (mT (aCP qT qT aI (pv 0) (aAQ (v:=.int 6) rfl h6 ⟨t6,rfl⟩))))),?_⟩
  refine ⟨_,rfl,x,d,rfl,hd,_,rfl,?_⟩
  refine cU (λc=>?_) (λc=>?_)
  ·obtain ⟨i,rfl⟩:∃ i,d=.int i:=by cases d <;> first | exact ⟨_,rfl⟩ | (exfalso; simp [gU] at c)
   obtain rfl:=cK.mp hd
   refine ⟨_,rfl,_,_,rfl,rfl,_,rfl,?_⟩
   refine cU (λc1=>?_) (λc1=>?_)
   ·refine ⟨_,_,rfl,rfl,?_⟩
    have e:decide (i<=6)=iY (.int i):=by
     show _=(decide (1<=i) && decide (i<=6))
     rw [c1,Zs]
    show Q (.bl (decide (i<=6))) H
    rw [e]; exact k
   ·have e:false=iY (.int i):=by
     show _=(decide (1<=i) && decide (i<=6))
     have c2:decide (1<=i)=false:=by simpa using c1
     rw [c2,Bool.false_and]
    rw [e]; exact k
  ·have e:false=iY d:=by cases d <;> first | rfl | (exfalso; simp [gU] at c)
   rw [e]; exact k
theorem iD (h l i:Int) (r:List PyData):eD h l (.int i::r)=(decide (l < i) && decide (i < h) && eD h i r):=by rw [eD]
theorem rR (h l:Int) (d:PyData) (r:List PyData) (n:gU d=false):eD h l (d::r)=false:=by
 cases d <;> first | rfl | (simp [gU] at n)
def aBh (K:Rc):Sp:=λvs H Q _=>∃ n x d,vs = [.int n,x]/\Den K H d x/\Q (.bl (cO n d)) H
theorem qM:FnScope ["hands", "thing", "last", "hand"] ["hands", "thing"] (aG rN):=⟨rfl,rfl,rfl,by decide +kernel,rfl,by decide +kernel,by decide +kernel⟩
theorem aDP (G:Fn K mg "is_work" rN ["hands", "thing"] f fd) (B:Bl mg) (W:Fn K mg "is_whole" mZ ["thing"] fW fdW):FnOk P w K mg base CX0 2 f fd ["hands", "thing"] (aBh K):=by
 have GW:FnOk P w K mg base CX0 1 fW fdW ["thing"] (nV K):=nW W B
 refine G.fn.ok qM (λvs H Q E h=>?_) (λcdv A outer s H vs Q E hr h=>?_)
 ·obtain ⟨n,x,d,rfl,_⟩:=h
  rfl
 ·obtain ⟨n,x,d,rfl,hd,k⟩:=h
  refine ⟨_,aE (cJ (PW.pt (jB (eO (eC (aM cW rfl B.isinstance hJ (aA (pv 1) (aA (dQ (v:=.ty "tuple") rfl B.tuple cM rfl) aC)))))
    (gL (bE gC (aM aY rfl B.len eV (aA (pv 1) aC)) aI (bD _))))) (aJ (aX iE)) bI)
   (aE (aS (i:=2) qM.nd rfl (Or.inl rfl) (aFD aCM aI))
   (aE (eF PassesOwn.never rfl (gB (pv 1)) (aK (i:=3) qM.nd rfl (Or.inl rfl))
    (aE (cJ (PW.pt (jB (eO (eC (bF W GW hr rfl (aA (pv 3) aC)))) (jB (bE qT (pv 3) (pv 2) (bD _)) (gL (bE wT (pv 3) (pv 0) (bD _)))))) (aJ (aX iE)) bI)
    (aJ (aS (i:=2) qM.nd rfl (Or.inl rfl) (pv 3)))))
   (aJ (aX iE)))),?_⟩
  refine ⟨_,rfl,x,iB d,rfl,hd.kd,_,rfl,?_⟩
  refine cU (λc=>?_) (λc=>?_)
  ·-- not a tuple
   refine fZ ?_
   have e:false=cO n d:=by
    cases d <;> first | rfl | (exfalso; simp [iB] at c)
   rw [e]; exact k
  ·obtain ⟨ds,rfl⟩:∃ ds,d=.tuple ds:=by cases d <;> first | exact ⟨_,rfl⟩ | (exfalso; simp [iB] at c)
   obtain ⟨a,xs,rfl,ha,hds⟩:=cC.mp hd
   have hl:=aN hds
   refine ⟨_,rfl,a,xs,rfl,.inr ha,rfl,_,rfl,?_⟩
   refine cU (λc2=>?_) (λc2=>?_)
   ·have e:false=cO n (.tuple ds):=by
     have e1:ds = []:=by
      have:(xs.length:Int)=0:=by simpa using c2
      exact Jp.mp (by omega)
     rw [e1]; rfl
    rw [e]; exact k
   ·have hne:ds≠[]:=by
     intro z
     apply c2
     rw [z] at hl
     simp [hl]
    have e0:cO n (.tuple ds)=eD n (-1) ds:=by
     show (!ds.isEmpty && eD n (-1) ds)=_
     cases ds with
     | nil=>exact absurd rfl hne
     | cons _ _=>rfl
    rw [e0] at k
    refine ⟨_,rfl,?_⟩
    refine ⟨_,rfl,a,rfl,⟨xs,ha⟩,lU (K:=K) (a:=a) (xs:=xs) (λi σ H2=>∃ (last:Int) (v:Option V),σ = [some (.int n),some (.ref a),some (.int last),v]/\H2=H/\eD n (-1) ds=eD n last (ds.drop i))
     ⟨-1,none,rfl,rfl,rfl⟩ (λi σ H2 _ ⟨_,_,_,e,_⟩=>by rw [e]; exact ha) ?_ ?_⟩
    ·rintro i y σ H2 hi ⟨last,v,rfl,rfl,hr2⟩
     obtain ⟨dy,hdy,hden⟩:=bU hds hi
     have hdrop:ds.drop i=dy::ds.drop (i+1):=by
      obtain ⟨hlt,e⟩:=Qd.mp hdy
      rw [Wb hlt,e]
     rw [hdrop] at hr2
     refine ⟨_,rfl,y,dy,rfl,hden,_,rfl,?_⟩
     refine cU (λc3=>?_) (λc3=>?_)
     ·refine fZ ?_
      have e:false=eD n (-1) ds:=by rw [hr2,rR]; simpa using c3
      rw [e]; exact k
     ·obtain ⟨j,rfl⟩:∃ j,dy=.int j:=by cases dy <;> first | exact ⟨_,rfl⟩ | (exfalso; simp [gU] at c3)
      obtain rfl:=cK.mp hden
      rw [iD] at hr2
      refine ⟨_,rfl,_,rfl,_,_,rfl,rfl,_,rfl,?_⟩
      refine cU (λc4=>?_) (λc4=>?_)
      ·refine fZ ?_
       have c4':j<=last:=of_decide_eq_true c4
       have e:false=eD n (-1) ds:=by rw [hr2,decide_eq_false (by omega:¬ last < j)]; rfl
       rw [e]; exact k
      ·have c4':¬ j<=last:=λz=>c4 (decide_eq_true z)
       refine ⟨_,rfl,_,rfl,_,_,rfl,rfl,_,rfl,?_⟩
       refine cU (λc5=>?_) (λc5=>?_)
       ·have c5':n<=j:=of_decide_eq_true c5
        have e:false=eD n (-1) ds:=by rw [hr2,decide_eq_false (by omega:¬ j < n),Bool.and_false]; rfl
        rw [e]; exact k
       ·have c5':¬ n<=j:=λz=>c5 (decide_eq_true z)
        refine ⟨_,rfl,j,some (.int j),rfl,rfl,?_⟩
        rw [hr2,decide_eq_true (by omega:last < j),decide_eq_true (by omega:j < n)]
        rfl
    ·rintro σ H2 ⟨last,v,rfl,rfl,hr2⟩
     have e:true=eD n (-1) ds:=by
      rw [hr2,hl,List.drop_length]
      rfl
     show Q (.bl true) _
     rw [e]; exact k
theorem aFf {σ:St} {A B:Hp->Prop} (h:A H):sS σ H λb H3=>if b=true then A H3 else B H3:=by
 show if true=true then A H else B H
 exact fZ h
theorem cI {i:Nat} {σ:St} {A B:St->Hp->Prop} (h:A (σ.set i (some x)) H):fV i x σ H λσ2 H2=>sS σ2 H2 λb H3=>if b=true then A σ2 H3 else B σ2 H3:=by
 show if true=true then A (σ.set i (some x)) H else B (σ.set i (some x)) H
 exact fZ h
def aBi (K:Rc):Sp:=λvs H Q _=>∃ x d,vs = [x]/\Den K H d x/\∀ H',aD H H'->Q (.bl (bC d)) H'
theorem vY:FnScope ["thing", "hands", "works"] ["thing"] (aG rO):=⟨rfl,rfl,rfl,by decide +kernel,rfl,by decide +kernel,by decide +kernel⟩
theorem aDQ {fdH fdK:FuncData} (G:Fn K mg "is_book" rO ["thing"] f fd) (B:Bl mg) (W:Fn K mg "is_whole" mZ ["thing"] fW fdW) (GH:Fn K mg "are_hands" rM ["thing"] fH fdH) (GK:Fn K mg "is_work" rN ["hands", "thing"] fK fdK):FnOk P w K mg base CX0 3 f fd ["thing"] (aBi K):=by
 have OH:FnOk P w K mg base CX0 2 fH fdH ["thing"] (aBg K):=aDO GH B W
 have OK:FnOk P w K mg base CX0 2 fK fdK ["hands", "thing"] (aBh K):=aDP GK B W
 obtain ⟨t12,h12⟩:=B.works
 refine G.fn.ok vY (λvs H Q E h=>?_) (λcdv A outer s H vs Q E hr h=>?_)
 ·obtain ⟨x,d,rfl,_⟩:=h
  rfl
 ·obtain ⟨x,d,rfl,hd,k⟩:=h
  refine ⟨_,aE (cJ (PW.pt (jB (eO (eC (aM cW rfl B.isinstance hJ (aA (pv 0) (aA (dQ (v:=.ty "tuple") rfl B.tuple cM rfl) aC)))))
    (gL (bE pT (aM aY rfl B.len eV (aA (pv 0) aC)) aI (bD _))))) (aJ (aX iE)) bI)
   (aE (iA (pv 0) (fM rfl (aU (aK (i:=1) vY.nd rfl (Or.inr rfl)) (aU (aK (i:=2) vY.nd rfl (Or.inl rfl)) cP))))
   (aE (cJ (eO (eC (bF GH OH hr rfl (aA (pv 1) aC)))) (aJ (aX iE)) bI)
   (aE (cJ (PW.pt (jB (eO (eC (aM cW rfl B.isinstance hJ (aA (pv 2) (aA (dQ (v:=.ty "tuple") rfl B.tuple cM rfl) aC)))))
    (gL (bE aAU (aM aY rfl B.len eV (aA (pv 2) aC)) (aAQ (v:=.int 12) rfl h12 ⟨t12,rfl⟩) (bD _))))) (aJ (aX iE)) bI)
   (aJ (aX (aM (gY rfl) rfl B.all pY (aA
    (cB (own:=["work"]) (fr:=[1]) (frn:=["hands"]) (bG (aG rO) ["thing", "hands", "works"] rfl rfl (by decide +kernel)) rfl (gB (pv 2))
     (λ_ _ _ _=>aK (i:=0) (show (["work", "hands"]:List Str).Nodup by decide +kernel) rfl (Or.inl rfl)) (λ_ _ _ _=>dO) (λ_ _ _ _=>bF GK OK hr rfl (aA (pv 1) (aA (pv 0) aC)))) aC))))))),?_⟩
  refine ⟨_,rfl,x,iB d,rfl,hd.kd,_,rfl,?_⟩
  refine cU (λc=>?_) (λc=>?_)
  ·refine fZ ?_
   have e:false=bC d:=by
    cases d <;> first | rfl | (exfalso; simp [iB] at c)
   rw [e]; exact k H (aD.refl H)
  ·obtain ⟨ds,rfl⟩:∃ ds,d=.tuple ds:=by cases d <;> first | exact ⟨_,rfl⟩ | (exfalso; simp [iB] at c)
   obtain ⟨a,xs,rfl,ha,hds⟩:=cC.mp hd
   have hl:=aN hds
   refine ⟨_,rfl,a,xs,rfl,.inr ha,rfl,_,rfl,?_⟩
   refine cU (λc2=>?_) (λc2=>?_)
   ·have e:false=bC (.tuple ds):=by
     match ds,hl,c2 with
     | [],_,_=>rfl
     | [_],_,_=>rfl
     | [_,_],hl,c2=>exfalso; rw [hl] at c2; simp at c2
     | _::_::_::_,_,_=>rfl
    rw [e]; exact k H (aD.refl H)
   ·obtain ⟨dh,dw,rfl⟩:∃ dh dw,ds = [dh,dw]:=by
     match ds,hl,c2 with
     | [],hl,c2=>exfalso; rw [hl] at c2; simp at c2
     | [_],hl,c2=>exfalso; rw [hl] at c2; simp at c2
     | [p,q],_,_=>exact ⟨p,q,rfl⟩
     | p::q::r::t,hl,c2=>exfalso; apply c2; rw [hl]; simp; omega
    obtain ⟨xh,r1,rfl,hh,h2⟩:=aL.mp hds
    obtain ⟨xw,r2,rfl,hw,h3⟩:=aL.mp h2
    obtain rfl:=aO.mp h3
    -- hands,works=thing
    refine ⟨_,rfl,a,_,rfl,ha,rfl,_,_,rfl,_,_,rfl,rfl,?_⟩
    -- are_hands(hands)
    refine ⟨_,rfl,xh,dh,rfl,hh,_,rfl,?_⟩
    refine cU (λc3=>?_) (λc3=>?_)
    ·have e:false=bC (.tuple [dh,dw]):=by
      have c3':iY dh=false:=by simpa using c3
      cases dh with
      | int n =>
       cases dw with
       | tuple ws =>
        have c4:(decide (1<=n) && decide (n<=6))=false:=c3'
        show _=(decide (1<=n) && decide (n<=6) && decide (ws.length<=12) && ws.all (cO n))
        rw [c4]; rfl
       | _=>rfl
      | _=>rfl
     rw [e]; exact k H (aD.refl H)
    ·obtain ⟨n,rfl,hn⟩:∃ n,dh=.int n/\(decide (1<=n) && decide (n<=6))=true:=by
      cases dh <;> first | exact ⟨_,rfl,by simpa [iY] using c3⟩ | (exfalso; simp [iY] at c3)
     obtain rfl:=cK.mp hh
     refine ⟨_,rfl,xw,iB dw,rfl,hw.kd,_,rfl,?_⟩
     refine cU (λc5=>?_) (λc5=>?_)
     ·refine fZ ?_
      have e:false=bC (.tuple [.int n,dw]):=by
       cases dw <;> first | rfl | (exfalso; simp [iB] at c5)
      rw [e]; exact k H (aD.refl H)
     ·obtain ⟨ws,rfl⟩:∃ ws,dw=.tuple ws:=by cases dw <;> first | exact ⟨_,rfl⟩ | (exfalso; simp [iB] at c5)
      obtain ⟨b,ys,rfl,hb,hws⟩:=cC.mp hw
      have hlw:=aN hws
      have eB:bC (.tuple [.int n,.tuple ws])=(decide (ws.length<=12) && ws.all (cO n)):=by
       show (decide (1<=n) && decide (n<=6) && decide (ws.length<=12) && ws.all (cO n))=_
       rw [hn,Zs]
      rw [eB] at k
      refine ⟨_,rfl,b,ys,rfl,.inr hb,_,_,rfl,rfl,_,rfl,?_⟩
      refine cU (λc6=>?_) (λc6=>?_)
      ·have c6':(12:Int) < ys.length:=of_decide_eq_true c6
       have e:false=(decide (ws.length<=12) && ws.all (cO n)):=by rw [decide_eq_false (by omega:¬ ws.length<=12)]; rfl
       rw [e]; exact k H (aD.refl H)
      ·have c6':¬ (12:Int) < ys.length:=λz=>c6 (decide_eq_true z)
       have e1:decide (ws.length<=12)=true:=decide_eq_true (by omega)
       rw [e1,Zs] at k
       refine ⟨_,rfl,b,rfl,⟨ys,hb⟩,jT (K:=K) (a:=b) (xs:=ys) (λσ=>∃ v,σ = [v,some (.int n)]) (λi zs H2=>H2=H/\zs=((ws.take i).map (cO n)).map V.bl) ?_ ⟨none,rfl⟩ ⟨rfl,rfl⟩ ?_ ?_ ?_ ?_⟩
       ·rw [Rf]; omega
       ·rintro i zs H2 ⟨_,rfl⟩
        rw [Qb,Qb,Qv]; omega
       ·rintro i zs H2 ⟨rfl,_⟩
        exact hb
       ·rintro i zs σ x H2 hx ⟨v,rfl⟩ ⟨rfl,rfl⟩ hz
        obtain ⟨dx,hdx,hden⟩:=bU hws hx
        refine cI ?_
        refine ⟨_,rfl,_,rfl,n,x,dx,rfl,hden,hz,⟨some x,rfl⟩,rfl,?_⟩
        rw [Jd,hdx]
        simp
       ·rintro zs H2 ⟨rfl,rfl⟩ p hp
        refine ⟨p,_,rfl,SqL.of aB,?_⟩
        have e2:((ws.take ys.length).map (cO n)).all id=ws.all (cO n):=by
         rw [hlw,Jf,Ye]
         rfl
        rw [e2]
        exact k _ (aD.new hp)
def bM (l:List Int):PyData:=.tuple (l.map .int)
def aV (n:Int) (ws:List (List Int)):PyData:=.tuple [.int n,.tuple (ws.map bM)]
def bA (hs:List Int):PyData:=.tuple (hs.map .int)
def gF:PyData->List Int->Bool
 | .int i,l=>l.any (·==i)
 | _,_=>false
def bJ (ws:List (List Int)):PyData->Bool
 | .tuple hs=>decide (hs.length=ws.length) && (hs.zip ws).all λp=>gF p.1 p.2
 | _=>false
theorem uD (l:List Int):(l.map V.int).all nG=true:=by
 rw [Ye]
 exact Jt.mpr λ_ _=>rfl
theorem aBj (i:Int) (l:List Int):inV (.int i) (l.map V.int)=l.any (·==i):=by
 unfold inV
 rw [Wy]
 rfl
theorem cY (h:Den K H (aV n ws) x):∃ a b ys,x=.ref a/\SqT K H a [.int n,.ref b]/\SqT K H b ys/\aT K H (ws.map bM) ys:=by
 obtain ⟨a,xs,rfl,ha,hds⟩:=cC.mp h
 obtain ⟨xh,r1,rfl,hh,h2⟩:=aL.mp hds
 obtain ⟨xw,r2,rfl,hw,h3⟩:=aL.mp h2
 obtain rfl:=aO.mp h3
 obtain rfl:=cK.mp hh
 obtain ⟨b,ys,rfl,hb,hys⟩:=cC.mp hw
 exact ⟨a,b,ys,rfl,ha,hb,hys⟩
theorem bB (h:bC (aV n ws)=true):1<=n/\n<=6/\ws.length<=12/\∀ l∈ws,cO n (bM l)=true:=by
 have h':(decide (1<=n) && decide (n<=6) && decide ((ws.map bM).length<=12) && (ws.map bM).all (cO n))=true:=h
 simp only [Jn,decide_eq_true_eq,Qb,Jt] at h'
 exact ⟨h'.1.1.1,h'.1.1.2,h'.1.2,λl hl=>h'.2 _ (Qw.mpr ⟨l,hl,rfl⟩)⟩
theorem nX {k:Nat} {t:TGs} {n:Nat} (hK:X.K=K) (hc:X.calm=true) (h:PGs X es t) (hn:(assignEach es X.env).length=n:=by rfl) (hst:(assignEach es X.env).findIdx? (·.1)=none:=by rfl):PG X (.Tuple es k pos) (aG0 K n t):=by
 subst hK
 exact fM hc h hn hst
theorem aAn (hK:X.K=K):OpR X (compareOp .In) (rIn K false):=by subst hK; exact oT
theorem cN (hK:X.K=K):IxR X (aGg K):=by subst hK; exact bY
theorem aAo (hK:X.K=K):MtR X "tuple.count" (λx vs H Q=>∃ (a:Addr) (ns:List Int) (n:Int),x=.ref a/\vs = [.int n]/\SqT K H a (ns.map V.int)/\Q (.int (ns.count n:Nat)) H):=by subst hK; exact aBX
structure Pr (K:Rc) (mg:Str->Option Value) (fW fH fK fB fNB fD fND fL:Addr) (dW dH dK dB dNB dD dND dL:FuncData):Prop where
 W:Fn K mg "is_whole" mZ ["thing"] fW dW
 H:Fn K mg "are_hands" rM ["thing"] fH dH
 Kw:Fn K mg "is_work" rN ["hands", "thing"] fK dK
 B:Fn K mg "is_book" rO ["thing"] fB dB
 NB:Fn K mg "need_book" aAj ["book"] fNB dNB
 D:Fn K mg "is_deal" vT ["book", "thing"] fD dD
 ND:Fn K mg "need_deal" aAk ["book", "deal"] fND dND
 C:∃ f d,Fn K mg "counted" lK ["hands", "deal"] f d
 L:Fn K mg "loads" aAl ["book", "deal"] fL dL
def vZ (K:Rc):Sp:=λvs H Q _=>∃ x d,vs = [x]/\Den K H d x/\bC d=true/\∀ H',aD H H'->Q .non H'
theorem aFg:FnScope ["book"] ["book"] (aG aAj):=⟨rfl,rfl,rfl,by decide +kernel,rfl,by decide +kernel,by decide +kernel⟩
theorem yH (B:Bl mg) (R:Pr K mg fW fH fK fB fNB fD fND fL dW dH dK dB dNB dD dND dL):FnOk P w K mg base CX0 4 fNB dNB ["book"] (vZ K):=by
 have OB:FnOk P w K mg base CX0 3 fB dB ["thing"] (aBi K):=aDQ R.B B R.W R.H R.Kw
 refine R.NB.fn.ok aFg (λvs H Q E h=>?_) (λcdv A outer s H vs Q E hr h=>?_)
 ·obtain ⟨x,d,rfl,_⟩:=h
  rfl
 ·obtain ⟨x,d,rfl,hd,hb,k⟩:=h
  refine ⟨_,aJ (cJ (eO (eC (bF R.B OB hr rfl (aA (pv 0) aC)))) iN bI),?_⟩
  refine ⟨_,rfl,x,d,rfl,hd,λH' hs=>⟨_,rfl,?_⟩⟩
  rw [hb]
  refine gX ?_
  exact k H' hs
def aBk (K:Rc):Sp:=λvs H Q _=>∃ x y n ws d,vs = [x,y]/\Den K H (aV n ws) x/\bC (aV n ws)=true/\Den K H d y/\∀ H',aD H H'->Q (.bl (bJ ws d)) H'
theorem aBl:FnScope ["book", "thing", "works"] ["book", "thing"] (aG vT):=⟨rfl,rfl,rfl,by decide +kernel,rfl,by decide +kernel,by decide +kernel⟩
theorem aDR (B:Bl mg) (R:Pr K mg fW fH fK fB fNB fD fND fL dW dH dK dB dNB dD dND dL):FnOk P w K mg base CX0 5 fD dD ["book", "thing"] (aBk K):=by
 have ON:FnOk P w K mg base CX0 4 fNB dNB ["book"] (vZ K):=yH B R
 have OW:FnOk P w K mg base CX0 1 fW dW ["thing"] (nV K):=nW R.W B
 refine R.D.fn.ok aBl (λvs H Q E h=>?_) (λcdv A outer s H vs Q E hr h=>?_)
 ·obtain ⟨x,y,n,ws,d,rfl,_⟩:=h
  rfl
 ·obtain ⟨x,y,n,ws,d,rfl,hx,hb,hd,k⟩:=h
  have hr1:Room 1 _:=hr.mono (by decide)
  refine ⟨_,aE (gA (bF R.NB ON hr rfl (aA (pv 0) aC)))
   (aE (aS (i:=2) aBl.nd rfl (Or.inl rfl) (aZ bY (pv 0) aI (λ_ _=>rfl)))
   (aE (cJ (PW.pt (jB (eO (eC (aM cW rfl B.isinstance hJ (aA (pv 1) (aA (dQ (v:=.ty "tuple") rfl B.tuple cM rfl) aC)))))
    (gL (bE pT (aM aY rfl B.len eV (aA (pv 1) aC)) (aM aY rfl B.len eV (aA (pv 2) aC)) (bD _))))) (aJ (aX iE)) bI)
   (aJ (aX (aM (gY rfl) rfl B.all pY (aA
    (cB (own:=["hand", "able"]) (fr:=[]) (frn:=[]) (bG (aG vT) ["book", "thing", "works"] rfl rfl (by decide +kernel)) rfl (zX .t .t rfl B.zip (aA (pv 1) (aA (pv 2) aC)))
     (λ_ _ _ _=>nX (K:=K) (n:=2) rfl rfl (aU (aK (i:=0) (show (["hand", "able"]:List Str).Nodup by decide +kernel) rfl (Or.inl rfl)) (aU (aK (i:=1) (show (["hand", "able"]:List Str).Nodup by decide +kernel) rfl (Or.inl rfl)) cP)))
     (λ_ _ _ _=>dO) (λ_ _ _ _=>kF (bF R.W OW hr1 rfl (aA (pv 0) aC)) (mT (fI (aAn (K:=K) rfl) (pv 0) (pv 1) (by with_unfolding_all rfl))))) aC)))))),?_⟩
  refine ⟨_,rfl,x,aV n ws,rfl,hx,hb,λH1 s1=>?_⟩
  have hx1:=s1.den _ _ hx
  have hd1:=s1.den _ _ hd
  obtain ⟨a,b,ys,rfl,ha,hb2,hys⟩:=cY hx1
  have hlw:=aN hys
  rw [Qb] at hlw
  refine ⟨_,rfl,a,_,1,.ref b,rfl,rfl,ha,rfl,?_⟩
  refine ⟨_,rfl,y,iB d,rfl,hd1.kd,_,rfl,?_⟩
  refine cU (λc=>?_) (λc=>?_)
  ·refine fZ ?_
   have e:false=bJ ws d:=by
    cases d <;> first | rfl | (exfalso; simp [iB] at c)
   rw [e]; exact k H1 s1
  ·obtain ⟨hs,rfl⟩:∃ hs,d=.tuple hs:=by cases d <;> first | exact ⟨_,rfl⟩ | (exfalso; simp [iB] at c)
   obtain ⟨a2,xs,rfl,ha2,hxs⟩:=cC.mp hd1
   have hlx:=aN hxs
   refine ⟨_,rfl,a2,xs,rfl,.inr ha2,_,rfl,b,ys,rfl,.inr hb2,rfl,_,rfl,?_⟩
   refine cU (λc2=>?_) (λc2=>?_)
   ·have e:false=bJ ws (.tuple hs):=by
     show _=(decide (hs.length=ws.length) && (hs.zip ws).all λp=>gF p.1 p.2)
     rw [decide_eq_false]
     ·rfl
     ·intro z
      have:(V.int (xs.length:Int)=V.int (ys.length:Int)):=by rw [hlx,hlw,z]
      simp [this] at c2
    rw [e]; exact k H1 s1
   ·have heq:xs.length=ys.length:=by
     have:V.int (xs.length:Int)=V.int (ys.length:Int):=by simpa using c2
     injection this with this
     omega
    have e0:bJ ws (.tuple hs)=(hs.zip ws).all λp=>gF p.1 p.2:=by
     show (decide (hs.length=ws.length) && _)=_
     rw [decide_eq_true (by omega:hs.length=ws.length),Zs]
    rw [e0] at k
    obtain ⟨_,_,h12,_⟩:=bB hb
    refine ⟨_,rfl,_,rfl,a2,b,xs,ys,rfl,ha2,hb2,aC6 (K:=K) (k1:=.t) (k2:=.t) (a:=a2) (b:=b) (xs:=xs) (ys:=ys) (λσ=>∃ u v,σ = [u,v]) (λi zs H2=>aD H1 H2/\zs=(((hs.zip ws).take i).map λp=>gF p.1 p.2).map V.bl) ?_ heq ⟨none,none,rfl⟩ ⟨aD.refl H1,rfl⟩ ?_ ?_ ?_ ?_⟩
    ·rw [Rf]; omega
    ·rintro i zs H2 ⟨_,rfl⟩
     rw [Qb,Qb,Qv]; omega
    ·rintro i zs H2 ⟨s2,_⟩
     exact ⟨s2.seqT ha2,s2.seqT hb2⟩
    ·rintro i zs σ u v p H2 hu hv ⟨u0,v0,rfl⟩ ⟨s2,rfl⟩ hp hz
     obtain ⟨du,hdu,denu⟩:=bU hxs hu
     obtain ⟨dv,hdv,denv⟩:=bU hys hv
     rw [Qe] at hdv
     obtain ⟨l,hl,rfl⟩:∃ l,ws[i]?=some l/\bM l=dv:=by
      cases q:ws[i]? with
      | none=>rw [q] at hdv; cases hdv
      | some l=>rw [q] at hdv; exact ⟨l,rfl,Option.some.inj hdv⟩
     have s3:aD H1 (upd H2 p (.tup [u,v])):=s2.trans (aD.new hp)
     have hzip:(hs.zip ws)[i]?=some (du,l):=by rw [Jl]; exact ⟨hdu,hl⟩
     have enext:(((hs.zip ws).take (i+1)).map λp=>gF p.1 p.2).map V.bl=(((hs.zip ws).take i).map λp=>gF p.1 p.2).map V.bl++[V.bl (gF du l)]:=by
      rw [Jd,hzip]; simp
     refine ⟨p,_,rfl,SqT.of aB,rfl,_,_,rfl,_,_,rfl,rfl,?_⟩
     refine aFf ?_
     refine ⟨_,rfl,u,du,rfl,s3.den _ _ denu,_,rfl,?_⟩
     refine cU (λc3=>?_) (λc3=>?_)
     ·obtain ⟨j,rfl⟩:∃ j,du=.int j:=by cases du <;> first | exact ⟨_,rfl⟩ | (exfalso; simp [gU] at c3)
      obtain rfl:=cK.mp denu
      obtain ⟨av,rfl,hav⟩:=aP.mp denv
      refine ⟨_,rfl,_,rfl,av,_,rfl,.inr (s3.seqT hav),rfl,uD l,hz,⟨_,_,rfl⟩,s3,?_⟩
      rw [enext]
      show _++[V.bl (inV (.int j) (l.map V.int))]=_
      rw [aBj]
      rfl
     ·have e:gF du l=false:=by cases du <;> first | rfl | (exfalso; simp [gU] at c3)
      refine ⟨hz,⟨_,_,rfl⟩,s3,?_⟩
      rw [enext,e]
    ·rintro zs H2 ⟨s2,rfl⟩ p hp
     refine ⟨p,_,rfl,SqL.of aB,?_⟩
     have e2:(((hs.zip ws).take xs.length).map λp=>gF p.1 p.2).all id=(hs.zip ws).all λp=>gF p.1 p.2:=by
      rw [Jq (by rw [List.length_zip]; omega),Ye]
      rfl
     rw [e2]
     exact k _ (s1.trans (s2.trans (aD.new hp)))
def aF (n:Int) (hs:List Int):List Int:=(bZ n.toNat).map λh=>((hs.count h:Nat):Int)
theorem yI {n i:Nat} (h:i < n):(bZ n)[i]?=some (i:Int):=by
 unfold bZ
 rw [Qe,Xe h]
 rfl
theorem lM (n:Nat):(bZ n).length=n:=by unfold bZ; rw [Qb,Js]
theorem aGA {o:Expr} {t:TA} {id:String} {r:V->List V->Hp->VK->Prop} (hK:X.K=K) (pa:PlainAttrs T) (slot:Slot T name id) (hty:typeOf (.builtin id)=pure (.type "method_descriptor")) (hm:MtR X id r) (ho:PE X o to) (ha:PA X (e::es) t) (hbase:attributeBase o name X.env (eval o X.env)=eval o X.env:=by rfl) (hfew:((backTo cpos (starEach (e::es) X.env)).all (λx=>!x.1) && (backToKw cpos (keywordEach [] X.env)).all (λx=>x.1.isSome)
   && decide ((e::es).length+([]:List Keyword).length+(if ([]:List Keyword).isEmpty then 0 else 1) < 30))=true:=by rfl) (hline:(apos.endLine==cpos.line)=true:=by rfl) (hs:starEach (e::es) X.env=(false,eval e X.env)::starEach es X.env:=by rfl) (hplain:(backTo cpos (starEach es X.env)).any (·.1)=false:=by rfl) :
  PE X (.Call (.Attribute o name apos) (e::es) [] cpos) (tBM K T r to t):=by
 subst hK
 exact nH pa slot hty hm ho ha hbase hfew hline hs hplain
def eR (K:Rc) (H:Hp) (x y:V) (n:Int) (ws:List (List Int)) (hs:List Int):Prop:=Den K H (aV n ws) x/\bC (aV n ws)=true/\Den K H (bA hs) y/\bJ ws (bA hs)=true
theorem eR.same (g:eR K H x y n ws hs) (e:aD H H'):eR K H' x y n ws hs:=⟨e.den _ _ g.1,g.2.1,e.den _ _ g.2.2.1,g.2.2.2⟩
theorem eR.len (g:eR K H x y n ws hs):hs.length<=12/\1<=n/\n<=6:=by
 obtain ⟨h1,h2,h3,_⟩:=bB g.2.1
 have h:(decide ((hs.map PyData.int).length=ws.length) && ((hs.map PyData.int).zip ws).all λp=>gF p.1 p.2)=true:=g.2.2.2
 simp only [Jn,decide_eq_true_eq,Qb] at h
 omega
def wA (K:Rc):Sp:=λvs H Q _=>∃ x y n ws hs,vs = [x,y]/\eR K H x y n ws hs/\∀ H',aD H H'->Q .non H'
theorem aFh:FnScope ["book", "deal"] ["book", "deal"] (aG aAk):=⟨rfl,rfl,rfl,by decide +kernel,rfl,by decide +kernel,by decide +kernel⟩
theorem yJ (B:Bl mg) (R:Pr K mg fW fH fK fB fNB fD fND fL dW dH dK dB dNB dD dND dL):FnOk P w K mg base CX0 6 fND dND ["book", "deal"] (wA K):=by
 have OD:FnOk P w K mg base CX0 5 fD dD ["book", "thing"] (aBk K):=aDR B R
 refine R.ND.fn.ok aFh (λvs H Q E h=>?_) (λcdv A outer s H vs Q E hr h=>?_)
 ·obtain ⟨x,y,n,ws,hs,rfl,_⟩:=h
  rfl
 ·obtain ⟨x,y,n,ws,hs,rfl,⟨g1,g2,g3,g4⟩,k⟩:=h
  refine ⟨_,aJ (cJ (eO (eC (bF R.D OD hr rfl (aA (pv 0) (aA (pv 1) aC))))) iN bI),?_⟩
  refine ⟨_,rfl,_,rfl,x,y,n,ws,bA hs,rfl,g1,g2,g3,λH' hs=>⟨_,rfl,?_⟩⟩
  rw [g4]
  refine gX ?_
  exact k H' hs
def uE (K:Rc):Sp:=λvs H Q _=>∃ (n:Int) (b:Addr) (hs:List Int),vs = [.int n,.ref b]/\SqT K H b (hs.map V.int)/\0<=n/\n<=6/\∀ p H',aD H H'->H' p=some (.tup ((aF n hs).map V.int))->Q (.ref p) H'
theorem aCr:FnScope ["hands", "deal"] ["hands", "deal"] (aG lK):=⟨rfl,rfl,rfl,by decide +kernel,rfl,by decide +kernel,by decide +kernel⟩
theorem aAp (G:Fn K mg "counted" lK ["hands", "deal"] f fd) (B:Bl mg):FnOk P w K mg base CX0 1 f fd ["hands", "deal"] (uE K):=by
 refine G.fn.ok aCr (λvs H Q E h=>?_) (λcdv A outer s H vs Q E hr h=>?_)
 ·obtain ⟨n,b,hs,rfl,_⟩:=h
  rfl
 ·obtain ⟨n,c,hs,rfl,hc,hn1,hn6,k⟩:=h
  refine ⟨_,aJ (aX (bR bV rfl B.tuple cM (aA
    (cB (own:=["hand"]) (fr:=[1]) (frn:=["deal"]) (bG (aG lK) ["hands", "deal"] rfl rfl (by decide +kernel)) rfl (dP rfl B.range (aA (pv 0) aC))
     (λ_ _ _ _=>aK (i:=0) (show (["hand", "deal"]:List Str).Nodup by decide +kernel) rfl (Or.inl rfl)) (λ_ _ _ _=>dO)
     (λ_ _ _ _=>aGA (K:=K) rfl PySem.F.plainAttrs_tuple Iy PySem.F.type_tuple_count (aAo (K:=K) rfl) (pv 1) (aA (pv 0) aC))) aC))),?_⟩
  refine ⟨_,rfl,n,rfl,by omega,by omega,dZ (lo:=0) (n:=n.toNat) (λσ=>∃ v,σ = [v,some (.ref c)]) (λi zs H2=>H2=H/\zs=(((bZ n.toNat).take i).map λh=>((hs.count h:Nat):Int)).map V.int) ?_ ⟨none,rfl⟩ ⟨rfl,rfl⟩ ?_ ?_ ?_⟩
  ·rw [Rf]; omega
  ·rintro i zs H2 ⟨_,rfl⟩
   rw [Qb,Qb,Qv]; omega
  ·rintro i zs σ H2 hi ⟨v,rfl⟩ ⟨rfl,rfl⟩ hz
   refine cI ?_
   refine ⟨_,rfl,.inr (.inl ⟨rfl,_,hc⟩),_,rfl,c,hs,_,rfl,rfl,hc,hz,⟨_,rfl⟩,rfl,?_⟩
   rw [Jd,yI hi]
   simp
  ·rintro zs H2 ⟨rfl,rfl⟩ p hp
   refine ⟨p,_,rfl,.inl ⟨SqL.of aB,λl hl=>?_⟩⟩
   refine k l _ ((aD.new hp).trans (aD.new hl)) ?_
   rw [aB,Jq (by rw [lM]; exact Qh _)]
   rfl
def wB (K:Rc):Sp:=λvs H Q _=>∃ x y n ws hs,vs = [x,y]/\eR K H x y n ws hs/\∀ p H',aD H H'->H' p=some (.tup ((aF n hs).map V.int))->Q (.ref p) H'
theorem aFi:FnScope ["book", "deal"] ["book", "deal"] (aG aAl):=⟨rfl,rfl,rfl,by decide +kernel,rfl,by decide +kernel,by decide +kernel⟩
theorem yK (B:Bl mg) (R:Pr K mg fW fH fK fB fNB fD fND fL dW dH dK dB dNB dD dND dL):FnOk P w K mg base CX0 7 fL dL ["book", "deal"] (wB K):=by
 have ON:FnOk P w K mg base CX0 6 fND dND ["book", "deal"] (wA K):=yJ B R
 obtain ⟨fC,dC,GC⟩:=R.C
 have OC:FnOk P w K mg base CX0 1 fC dC ["hands", "deal"] (uE K):=aAp GC B
 refine R.L.fn.ok aFi (λvs H Q E h=>?_) (λcdv A outer s H vs Q E hr h=>?_)
 ·obtain ⟨x,y,n,ws,hs,rfl,_⟩:=h
  rfl
 ·obtain ⟨x,y,n,ws,hs,rfl,g,k⟩:=h
  have r1:Room 1 _:=hr.mono (by decide)
  refine ⟨_,aE (gA (bF R.ND ON hr rfl (aA (pv 0) (aA (pv 1) aC))))
   (aJ (aX (bF GC OC r1 rfl (aA (aZ bY (pv 0) aI (λ_ _=>rfl)) (aA (pv 1) aC))))),?_⟩
  refine ⟨_,rfl,_,rfl,x,y,n,ws,hs,rfl,g,λH1 s1=>?_⟩
  have g1:=g.same s1
  obtain ⟨hl,hn1,hn6⟩:=g.len
  obtain ⟨a,b,ys,rfl,ha,hb2,hys⟩:=cY g1.1
  obtain ⟨c,rfl,hc⟩:=aP.mp g1.2.2.1
  refine ⟨_,rfl,a,_,0,.int n,rfl,rfl,ha,rfl,_,rfl,n,c,hs,rfl,hc,by omega,hn6,λp H2 s2 hp=>?_⟩
  exact k p H2 (s1.trans s2) hp
theorem eA (n:Int) (hs:List Int):(aF n hs).length=n.toNat:=by unfold aF; rw [Qb,lM]
def But (t:Addr) (H H':Hp):Prop:=∀ b o,b≠t->H b=some o->H' b=some o
theorem But.refl (t:Addr) (H:Hp):But t H H:=λ_ _ _ h=>h
theorem But.trans {t:Addr} (a:But t H H1) (b:But t H1 H2):But t H H2:=λc o n h=>b c o n (a c o n h)
theorem But.of {t:Addr} (a:aD H H'):But t H H':=λc o _ h=>a c o h
theorem But.at {t:Addr} {u:HO}:But t H (upd H t u):=λc o n h=>by rw [aH n]; exact h
theorem But.free {t:Addr} (e:But t H H') {l:Addr} (h:H' l=none) (n:l≠t):H l=none:=by
 cases q:H l with
 | none=>rfl
 | some o=>rw [e l o n q] at h; cases h
theorem But.rdL {t:Addr} (e:But t H H') (n:a≠t) (h:Rd H a (.lst xs)):Rd H' a (.lst xs):=by
 rcases h with h | ⟨o,h⟩
 ·exact .inl (e a _ n h)
 ·exact .inr ⟨o,e a _ n h⟩
section
variable {t:Addr}
theorem But.seqT (e:But t H H') (ht:H t=some (.lst ys)) (h:SqT K H a xs):SqT K H' a xs:=by
 rcases h with (h | ⟨o,h⟩) | h
 ·exact .inl (.inl (e a _ (λz=>by rw [z,ht] at h; cases h) h))
 ·exact .inl (.inr ⟨o,e a _ (λz=>by rw [z,ht] at h; cases h) h⟩)
 ·exact .inr h
theorem But.seqL (e:But t H H') (n:a≠t) (h:SqL K H a xs):SqL K H' a xs:=by
 rcases h with h | h
 ·exact .inl (e.rdL n h)
 ·exact .inr h
mutual
def fO:PyData->Bool
 | .dict _=>false
 | .list _=>false
 | .tuple ds=>gW ds
 | _=>true
def gW:List PyData->Bool
 | []=>true
 | d::ds=>fO d && gW ds
end
mutual
theorem But.den (e:But t H H') (ht:H t=some (.lst ys)):∀ (d:PyData) (v:V),fO d=true->Den K H d v->Den K H' d v
 | .none,v,_,h=>by unfold Den at h ⊢; exact h
 | .bool b,v,_,h=>by unfold Den at h ⊢; exact h
 | .int i,v,_,h=>by unfold Den at h ⊢; exact h
 | .str x,v,_,h=>by unfold Den at h ⊢; exact h
 | .list ds,v,n,h=>by unfold fO at n; cases n
 | .tuple ds,v,n,h=>by unfold fO at n; unfold Den at h ⊢; obtain ⟨a,xs,h1,h2,h3⟩:=h; exact ⟨a,xs,h1,e.seqT ht h2,But.denAll e ht ds xs n h3⟩
 | .dict kvs,v,n,h=>by unfold fO at n; cases n
theorem But.denAll (e:But t H H') (ht:H t=some (.lst ys)):∀ (ds:List PyData) (xs:List V),gW ds=true->aT K H ds xs->aT K H' ds xs
 | [],xs,_,h=>by unfold aT at h ⊢; exact h
 | d::ds,xs,n,h=>by
  unfold gW at n; rw [Jn] at n
  unfold aT at h ⊢; obtain ⟨x,r,h1,h2,h3⟩:=h; exact ⟨x,r,h1,But.den e ht d x n.1 h2,But.denAll e ht ds r n.2 h3⟩
end
end
theorem cT (f:α->PyData) (h:∀ x,fO (f x)=true):∀ l:List α,gW (l.map f)=true
 | []=>by unfold List.map gW; rfl
 | x::r=>by rw [Qy]; unfold gW; rw [h x,cT f h r]; rfl
theorem rS (i:Int):fO (.int i)=true:=by unfold fO; rfl
theorem dU (l:List Int):fO (bM l)=true:=by unfold bM fO; exact cT _ rS l
theorem yL (l:List Int):fO (bA l)=true:=dU l
theorem pZ (n:Int) (ws:List (List Int)):fO (aV n ws)=true:=by
 unfold aV fO gW
 rw [rS]
 unfold gW fO
 rw [cT _ dU ws]
 unfold gW
 rfl
def fP (K:Rc) (H:Hp) (t a:Addr) (ns:List Int):Prop:=(∃ p q:Int,0<=p/\H t=some (.lst [.ref a,.int p,.int q]))/\SqL K H a (ns.map V.int)
theorem fP.same {t:Addr} (h:fP K H t a ns) (e:aD H H'):fP K H' t a ns:=by
 obtain ⟨⟨p,q,h1,h2⟩,h3⟩:=h
 exact ⟨⟨p,q,h1,e t _ h2⟩,e.seqL h3⟩
theorem fP.den {t:Addr} (h:fP K H t a ns) (e:But t H H') {d:PyData} (n:fO d=true) (hd:Den K H d v):Den K H' d v:=by
 obtain ⟨⟨p,q,h1,h2⟩,h3⟩:=h
 exact e.den h2 d v n hd
theorem fP.seqT {t:Addr} (h:fP K H t a ns) (e:But t H H') (hd:SqT K H b xs):SqT K H' b xs:=by
 obtain ⟨⟨p,q,h1,h2⟩,h3⟩:=h
 exact e.seqT h2 hd
theorem fP.ne {t:Addr} (h:fP K H t a ns) (hb:H b=none):b≠t:=by
 obtain ⟨⟨p,q,h1,h2⟩,h3⟩:=h
 intro z
 rw [z,h2] at hb
 cases hb
theorem aAq {r:List V} (h:ns.map V.int=.ref a::r):False:=by
 cases ns with
 | nil=>cases h
 | cons _ _=>rw [Qy] at h; cases h
theorem eY {t:Addr} {p q:Int} {u:HO} (h2:H t=some (.lst [.ref a,.int p,.int q])) (h:SqL K H a (ns.map V.int)):SqL K (upd H t u) a (ns.map V.int):=by
 rcases h with (h | ⟨o,h⟩) | h
 ·have n:a≠t:=λz=>by
   rw [z,h2] at h
   injection h with h
   injection h with h
   exact aAq h.symm
  exact .inl (.inl (by rw [aH n]; exact h))
 ·have n:a≠t:=λz=>by
   rw [z,h2] at h
   cases h
  exact .inl (.inr ⟨o,by rw [aH n]; exact h⟩)
 ·exact .inr h
theorem eE (ns:List Int):cQ (.list (ns.map .int))=true:=by
 unfold cQ
 induction ns with
 | nil=>unfold List.map gT; rfl
 | cons n r ih=>rw [Qy]; unfold gT; rw [ih]; unfold cQ; rfl
theorem kK (f:α->PyData) (h:∀ x,(f x).canLay0=true):∀ l:List α,PyData.canLayAll0 (l.map f)=true
 | []=>by unfold List.map PyData.canLayAll0; rfl
 | x::r=>by rw [Qy]; unfold PyData.canLayAll0; rw [h x,kK f h r]; rfl
theorem lX {k:Nat} (f:α->PyData) (h:∀ x,(f x).depth<=k):∀ l:List α,PyData.depthAll (l.map f)<=k
 | []=>by unfold List.map PyData.depthAll; exact Jr _
 | x::r=>by rw [Qy]; unfold PyData.depthAll; exact Nat.max_le.mpr ⟨h x,lX f h r⟩
theorem nB (i:Int):(PyData.int i).canLay0=true:=by unfold PyData.canLay0; rfl
theorem pE (i:Int):(PyData.int i).depth<=0:=by unfold PyData.depth; exact Qh _
theorem wC (ns:List Int):(PyData.list (ns.map .int)).canLay0=true:=by unfold PyData.canLay0; exact kK _ nB ns
theorem nY (ns:List Int):(PyData.tuple (ns.map .int)).canLay0=true:=by unfold PyData.canLay0; exact kK _ nB ns
theorem yM (ns:List Int):(PyData.list (ns.map .int)).depth<=1:=by unfold PyData.depth; exact Yb (lX _ pE ns)
theorem qA (ns:List Int):(PyData.tuple (ns.map .int)).depth<=1:=by unfold PyData.depth; exact Yb (lX _ pE ns)
theorem uF {d:PyData} (h1:d.canLay0=true) (h2:d.depth<=64):SeqAt.shaped d=true:=by
 unfold SeqAt.shaped
 rw [h1,decide_eq_true h2]
 rfl
theorem eS (ns:List Int):SeqAt.shaped (.list (ns.map .int))=true:=uF (wC ns) (Je (yM ns) (by decide))
theorem nZ (ns:List Int):SeqAt.shaped (.tuple (ns.map .int))=true:=uF (nY ns) (Je (qA ns) (by decide))
theorem oA (ns:List Int):cQ (.tuple (ns.map .int))=true:=by
 have h:=eE ns
 unfold cQ at h ⊢
 exact h
def aDS:Sp:=λvs H Q _=>∃ c a:Int,vs = [.int c,.int a]/\∀ r,Q (.int r) H
theorem wD:FnScope ["cell", "at", "first", "second", "third"] ["cell", "at"] (aG aBe):=⟨rfl,rfl,rfl,by decide +kernel,rfl,by decide +kernel,by decide +kernel⟩
theorem aFj (G:Fn K mg "_law_b_stirred" aBe ["cell", "at"] f fd):FnOk P w K mg base CX0 1 f fd ["cell", "at"] aDS:=by
 refine G.fn.ok wD (λvs H Q E h=>?_) (λcdv A outer s H vs Q E hr h=>?_)
 ·obtain ⟨c,a,rfl,_⟩:=h
  rfl
 ·obtain ⟨c,a,rfl,k⟩:=h
  refine ⟨_,aE (cJ (bE wT (pv 0) (bH aF9 aI aI) (bD _)) (aJ (aX (pv 0))) bI)
   (aE (aS (i:=2) wD.nd rfl (Or.inl rfl) (bH kG (bH cV (bH cV (bH iV (bH kG (pv 0) aI) aI) (bH iV (pv 1) aI)) aI) aI))
   (aE (aS (i:=3) wD.nd rfl (Or.inl rfl) (bH kG (bH cV (bH cV (bH iV (pv 2) (pv 2)) (bH iV aI (pv 1))) aI) aI))
   (aE (aS (i:=4) wD.nd rfl (Or.inl rfl) (bH kG (bH cV (bH cV (bH iV (pv 3) (pv 3)) (bH iV aI (pv 2))) (pv 1)) aI))
   (aJ (aX (bH cV (bH iV (pv 3) aI) (pv 4))))))),?_⟩
  refine ⟨_,rfl,_,_,rfl,rfl,⟨by decide,by decide,by decide⟩,_,_,rfl,rfl,_,rfl,?_⟩
  refine cU (λc1=>?_) (λc1=>?_)
  ·exact ⟨_,rfl,k _⟩
  ·refine ⟨_,rfl,_,_,rfl,rfl,(show (0:Int) < _ by decide),_,_,rfl,rfl,.inr ⟨by decide,by decide⟩,_,rfl,_,_,rfl,rfl,.inr ⟨by decide,by decide⟩,_,_,rfl,rfl,_,_,rfl,rfl,_,_,rfl,rfl,(show (0:Int) < _ by decide),?_⟩
   generalize hf:((c % 2147483629*43591+a*6661+353) % 2147483587:Int)=f1
   have b1:0<=f1/\f1 < 2147483587:=by rw [<- hf]; exact ⟨Xt _ (by decide),Xi _ (by decide)⟩
   refine ⟨_,rfl,_,rfl,_,_,rfl,rfl,.inl ⟨by omega,by omega⟩,_,rfl,_,_,rfl,rfl,.inl ⟨by decide,by decide⟩,_,_,rfl,rfl,_,_,rfl,rfl,_,_,rfl,rfl,(show (0:Int) < _ by decide),?_⟩
   generalize hg:((f1*f1+727*a+89) % 2147483579:Int)=f2
   have b2:0<=f2/\f2 < 2147483579:=by rw [<- hg]; exact ⟨Xt _ (by decide),Xi _ (by decide)⟩
   refine ⟨_,rfl,_,rfl,_,_,rfl,rfl,.inl ⟨by omega,by omega⟩,_,rfl,_,_,rfl,rfl,.inl ⟨by decide,by decide⟩,_,_,rfl,rfl,_,rfl,_,_,rfl,rfl,_,_,rfl,rfl,(show (0:Int) < _ by decide),?_⟩
   exact ⟨_,rfl,_,_,rfl,rfl,.inr ⟨by decide,by decide⟩,_,rfl,_,_,rfl,rfl,k _⟩
def oB (K:Rc):Sp:=λvs H Q _=>∃ (t a:Addr) (ns:List Int) (m:Int),vs = [.ref t,.int m]/\fP K H t a ns/\0 < m/\m < 1267650600228229401496703205376/\∀ r H',0<=r->r < m->But t H H'->fP K H' t a ns->Q (.int r) H'
theorem _root_.L2.Room.u64 {k:Nat} (r:Room k A):A.units+64 < cLine:=by have:=r.un; omega
theorem lY:FnScope ["tape", "many", "at", "cell", "found"] ["tape", "many"] (aG pD):=⟨rfl,rfl,rfl,by decide +kernel,rfl,by decide +kernel,by decide +kernel⟩
theorem aDT {fdS:FuncData} (G:Fn K mg "_law_b_digit" pD ["tape", "many"] f fd) (B:Bl mg) (GS:Fn K mg "_law_b_stirred" aBe ["cell", "at"] fS fdS):FnOk P w K mg base CX0 2 f fd ["tape", "many"] (oB K):=by
 have OS:FnOk P w K mg base CX0 1 fS fdS ["cell", "at"] aDS:=aFj GS
 refine G.fn.ok lY (λvs H Q E h=>?_) (λcdv A outer s H vs Q E hr h=>?_)
 ·obtain ⟨t,a,ns,m,rfl,_⟩:=h
  rfl
 ·obtain ⟨t,a,ns,m,rfl,⟨⟨p,q,hp,ht⟩,hns⟩,hm1,hm2,k⟩:=h
  refine ⟨_,aE (cJ (bE wS (aZ cG (pv 0) aI (λ_ _=>rfl)) (pv 1) (bD _))
    (aE (aS (i:=2) lY.nd rfl (Or.inl rfl) (aZ cG (pv 0) aI (λ_ _=>rfl)))
    (aE (aS (i:=3) lY.nd rfl (Or.inl rfl) (bH cV (bH iV aI (pv 2)) aI))
    (aE (cJ (bE wS (pv 2) (aM aY rfl B.len eV (aA (aZ cG (pv 0) aI (λ_ _=>rfl)) aC)) (bD _))
      (aJ (aS (i:=3) lY.nd rfl (Or.inl rfl) (aZ cG (aZ cG (pv 0) aI (λ_ _=>rfl)) (pv 2) (λ_ _=>rfl))))
      (aJ (cJ (bE (aGm hr.u64) (aZ cG (pv 0) aI (λ_ _=>rfl)) (eP aC) (bD _))
       (aJ (aS (i:=3) lY.nd rfl (Or.inl rfl) (bH cV (bH kG (aZ cG (aZ cG (pv 0) aI (λ_ _=>rfl)) (bH kG (bH iV (pv 2) aI) (aM aY rfl B.len eV (aA (aZ cG (pv 0) aI (λ_ _=>rfl)) aC))) (λ_ _=>rfl)) aI) (bH iV (pv 2) aI))))
       bI)))
    (aE (iA (bH cV (pv 2) aI) (qR (pv 0) aI lB))
    (aJ (iA (bF GS OS hr rfl (aA (pv 3) (aA (pv 2) aC))) (qR (pv 0) aI lB)))))))
    bI)
   (aE (aS (i:=4) lY.nd rfl (Or.inl rfl) (bH kG (aZ cG (pv 0) aI (λ_ _=>rfl)) (pv 1)))
   (aE (iA (bH aC7 (aZ cG (pv 0) aI (λ_ _=>rfl)) (pv 1)) (qR (pv 0) aI lB))
   (aJ (aX (pv 4))))),?_⟩
  refine ⟨_,rfl,t,_,2,.int q,rfl,rfl,SqL.of ht,rfl,_,rfl,_,_,rfl,rfl,_,rfl,?_⟩
  refine cU (λc1=>?_) (λc1=>?_)
  ·refine ⟨_,rfl,t,_,1,.int p,rfl,rfl,SqL.of ht,rfl,?_⟩
   refine ⟨_,rfl,_,_,rfl,rfl,.inl ⟨by decide,by decide⟩,_,_,rfl,rfl,?_⟩
   refine ⟨_,rfl,_,rfl,t,_,0,.ref a,rfl,rfl,SqL.of ht,rfl,a,_,rfl,.inl hns,_,_,rfl,rfl,_,rfl,?_⟩
   refine cU (λc2=>?_) (λc2=>?_)
   ·have c2':p < ((ns.map V.int).length:Int):=of_decide_eq_true c2
    rw [Qb] at c2'
    have hlt:p.toNat < ns.length:=by omega
    have hat:atI (ns.map V.int) p=some (.int (ns[p.toNat])):=by
     have h1:(ns.map V.int)[p.toNat]?=some (.int (ns[p.toNat])):=by rw [Qe,Qc hlt]; rfl
     have h2:=cF h1
     rwa [Zt hp] at h2
    refine ⟨_,rfl,t,_,0,.ref a,rfl,rfl,SqL.of ht,rfl,_,rfl,a,_,_,_,rfl,rfl,hns,hat,?_⟩
    refine ⟨_,rfl,_,_,rfl,rfl,_,rfl,t,_,_,1,rfl,rfl,ht,rfl,?_⟩
    refine ⟨_,rfl,_,rfl,_,_,rfl,λr=>⟨_,rfl,t,_,_,2,rfl,rfl,aB,rfl,?_⟩⟩
    refine ⟨_,rfl,t,_,2,.int r,rfl,rfl,SqL.of aB,rfl,_,rfl,_,_,rfl,rfl,hm1,?_⟩
    refine ⟨_,rfl,t,_,2,.int r,rfl,rfl,SqL.of aB,rfl,_,rfl,_,_,rfl,rfl,⟨hm1,hm2⟩,_,rfl,t,_,_,2,rfl,rfl,aB,rfl,?_⟩
    exact ⟨_,rfl,k _ _ (Xt _ (by omega)) (Xi _ hm1) ((But.refl t H).trans (But.at.trans (But.at.trans But.at))) ⟨⟨p+1,r / m,by omega,aB⟩,eY (p:=p+1) (q:=r) aB (eY (p:=p+1) (q:=q) aB (eY ht hns))⟩⟩
   ·refine ⟨_,rfl,t,_,0,.ref a,rfl,rfl,SqL.of ht,rfl,by decide,λl hl=>?_⟩
    have ntl:t≠l:=λz=>by rw [<- z,ht] at hl; cases hl
    have ht':upd H l (.lst []) t=some (.lst [.ref a,.int p,.int q]):=by rw [aH ntl]; exact ht
    have hns':SqL K (upd H l (.lst [])) a (ns.map V.int):=(aD.new hl).seqL hns
    have bl:But t H (upd H l (.lst [])):=But.of (aD.new hl)
    refine ⟨.list (ns.map .int),.list [],oU.mpr ⟨a,rfl,hns'⟩,cX.mpr ⟨l,[],rfl,SqL.of aB,aO.mpr rfl⟩,eE ns,rfl,eS ns,rfl,_,rfl,?_⟩
    refine cU (λc3=>?_) (λc3=>?_)
    ·have hpos:0 < ns.length:=by
      cases ns with
      | nil=>simp [PyData.eqv,PyData.eqvAll] at c3
      | cons _ _=>simp
     have hlt:(p*3 % (ns.length:Int)).toNat < ns.length:=by
      have:=Xt (p*3) (show (ns.length:Int)≠0 by omega)
      have:=Xi (p*3) (show (0:Int) < ns.length by omega)
      omega
     have hat:atI (ns.map V.int) (p*3 % ((ns.map V.int).length:Int))=some (.int (ns[(p*3 % (ns.length:Int)).toNat])):=by
      have h1:(ns.map V.int)[(p*3 % (ns.length:Int)).toNat]?=some (.int (ns[(p*3 % (ns.length:Int)).toNat])):=by rw [Qe,Qc hlt]; rfl
      have h2:=cF h1
      rw [Qb]
      rwa [Zt (Xt _ (by omega))] at h2
     refine ⟨_,rfl,t,_,0,.ref a,rfl,rfl,SqL.of ht',rfl,_,rfl,_,_,rfl,rfl,.inr ⟨by decide,by decide⟩,_,rfl,t,_,0,.ref a,rfl,rfl,SqL.of ht',rfl,a,_,rfl,.inl hns',_,_,rfl,rfl,(show (0:Int) < ((ns.map V.int).length:Int) by rw [Qb]; omega),a,_,_,_,rfl,rfl,hns',hat,_,_,rfl,rfl,(show (0:Int) < _ by decide),_,rfl,_,_,rfl,rfl,.inr ⟨by decide,by decide⟩,_,_,rfl,rfl,?_⟩
     refine ⟨_,rfl,_,_,rfl,rfl,_,rfl,t,_,_,1,rfl,rfl,ht',rfl,?_⟩
     refine ⟨_,rfl,_,rfl,_,_,rfl,λr=>⟨_,rfl,t,_,_,2,rfl,rfl,aB,rfl,?_⟩⟩
     refine ⟨_,rfl,t,_,2,.int r,rfl,rfl,SqL.of aB,rfl,_,rfl,_,_,rfl,rfl,hm1,?_⟩
     refine ⟨_,rfl,t,_,2,.int r,rfl,rfl,SqL.of aB,rfl,_,rfl,_,_,rfl,rfl,⟨hm1,hm2⟩,_,rfl,t,_,_,2,rfl,rfl,aB,rfl,?_⟩
     exact ⟨_,rfl,k _ _ (Xt _ (by omega)) (Xi _ hm1) (bl.trans (But.at.trans (But.at.trans But.at))) ⟨⟨p+1,r / m,by omega,aB⟩,eY (p:=p+1) (q:=r) aB (eY (p:=p+1) (q:=q) aB (eY ht' hns'))⟩⟩
    ·show _
     refine ⟨_,rfl,_,_,rfl,rfl,_,rfl,t,_,_,1,rfl,rfl,ht',rfl,?_⟩
     refine ⟨_,rfl,_,rfl,_,_,rfl,λr=>⟨_,rfl,t,_,_,2,rfl,rfl,aB,rfl,?_⟩⟩
     refine ⟨_,rfl,t,_,2,.int r,rfl,rfl,SqL.of aB,rfl,_,rfl,_,_,rfl,rfl,hm1,?_⟩
     refine ⟨_,rfl,t,_,2,.int r,rfl,rfl,SqL.of aB,rfl,_,rfl,_,_,rfl,rfl,⟨hm1,hm2⟩,_,rfl,t,_,_,2,rfl,rfl,aB,rfl,?_⟩
     exact ⟨_,rfl,k _ _ (Xt _ (by omega)) (Xi _ hm1) (bl.trans (But.at.trans (But.at.trans But.at))) ⟨⟨p+1,r / m,by omega,aB⟩,eY (p:=p+1) (q:=r) aB (eY (p:=p+1) (q:=q) aB (eY ht' hns'))⟩⟩
  ·show _
   refine ⟨_,rfl,t,_,2,.int q,rfl,rfl,SqL.of ht,rfl,_,rfl,_,_,rfl,rfl,hm1,?_⟩
   refine ⟨_,rfl,t,_,2,.int q,rfl,rfl,SqL.of ht,rfl,_,rfl,_,_,rfl,rfl,⟨hm1,hm2⟩,_,rfl,t,_,_,2,rfl,rfl,ht,rfl,?_⟩
   exact ⟨_,rfl,k _ _ (Xt _ (by omega)) (Xi _ hm1) (But.at) ⟨⟨p,q / m,by omega,aB⟩,eY ht hns⟩⟩
theorem yN (n:Int):∀ (l:List Int) (last:Int),(∀ x∈l,last < x)->l.Pairwise (· < ·)->(∀ x∈l,x < n)->eD n last (l.map .int)=true
 | [],_,_,_,_=>rfl
 | x::r,last,h1,h2,h3=>by
  rw [Qy,iD]
  have h2':=Ze.mp h2
  rw [decide_eq_true (h1 x (Qj ..)),decide_eq_true (h3 x (Qj ..)),yN n r x h2'.1 h2'.2 (λy hy=>h3 y (Qk _ hy))]
  rfl
theorem iI (h0:l≠[]) (h1:∀ x∈l,0<=x/\x < n) (h2:l.Pairwise (· < ·)):cO n (bM l)=true:=by
 have e:cO n (bM l)=(!(l.map PyData.int).isEmpty && eD n (-1) (l.map .int)):=rfl
 rw [e,yN n l (-1) (λx hx=>by have:=(h1 x hx).1; omega) h2 (λx hx=>(h1 x hx).2)]
 cases l with
 | nil=>exact absurd rfl h0
 | cons _ _=>rfl
theorem qB (n:Int):∀ (l:List Int) (last:Int),eD n last (l.map .int)=true->l.Pairwise (· < ·)/\∀ x∈l,last < x/\x < n
 | [],_,_=>⟨.nil,λ_ h=>by cases h⟩
 | x::r,last,h=>by
  rw [Qy,iD,Jn,Jn] at h
  obtain ⟨⟨h1,h2⟩,h3⟩:=h
  have h1:=of_decide_eq_true h1
  have h2:=of_decide_eq_true h2
  obtain ⟨i1,i2⟩:=qB n r x h3
  refine ⟨Ze.mpr ⟨λy hy=>(i2 y hy).1,i1⟩,λy hy=>?_⟩
  rcases Qn.mp hy with rfl | hy
  ·exact ⟨h1,h2⟩
  ·exact ⟨by have:=(i2 y hy).1; omega,(i2 y hy).2⟩
theorem bL (h:cO n (bM l)=true):l≠[]/\(∀ x∈l,0<=x/\x < n)/\l.Pairwise (· < ·):=by
 have e:(!(l.map PyData.int).isEmpty && eD n (-1) (l.map .int))=true:=h
 rw [Jn] at e
 obtain ⟨h1,h2⟩:=qB n l (-1) e.2
 refine ⟨λz=>by rw [z] at e; simp at e,λx hx=>⟨by have:=(h2 x hx).1; omega,(h2 x hx).2⟩,h1⟩
theorem rT:∀ (l:List Int) (lo:Int),lo<=n->(∀ x∈l,lo<=x/\x < n)->l.Pairwise (· < ·)->(l.length:Int)<=n - lo
 | [],lo,h,_,_=>by simp; omega
 | x::r,lo,h,h1,h2=>by
  have h2':=Ze.mp h2
  have hx:=h1 x (Qj ..)
  have:=rT r (x+1) (by omega) (λy hy=>⟨by have:=h2'.1 y hy; omega,(h1 y (Qk _ hy)).2⟩) h2'.2
  rw [Ja]
  omega
theorem eG (hn:0<=n) (h1:∀ x∈l,0<=x/\x < n) (h2:l.Pairwise (· < ·)):(l.length:Int)<=n:=by
 have:=rT l 0 hn h1 h2
 omega
theorem aDU {n:Nat} {x:Int}:x∈bZ n↔0<=x/\x < n:=by
 unfold bZ
 rw [Qw]
 constructor
 ·rintro ⟨i,hi,rfl⟩
  have:=Jw.mp hi
  show 0<=(i:Int)/\(i:Int) < n
  omega
 ·rintro ⟨h1,h2⟩
  exact ⟨x.toNat,Jw.mpr (by omega),by show ((x.toNat:Nat):Int)=x; omega⟩
theorem aAr (n:Nat):(bZ n).Pairwise (· < ·):=by
 unfold bZ
 rw [List.pairwise_map]
 refine Wu.imp λh=>?_
 show ((_:Nat):Int) < ((_:Nat):Int)
 omega
theorem aBm (hK:X.K=K) (hu:X.A.units+64 < cLine):OpR X (compareOp .Eq) (λx y H Q=>∃ d e,Den K H d x/\Den K H e y/\cQ d=true/\cQ e=true/\SeqAt.shaped d=true/\SeqAt.shaped e=true/\Q (.bl (PyData.eqv d e)) H):=by subst hK; exact zW hu
theorem lN:∀ (a b:List Int),PyData.eqvAll (a.map .int) (b.map .int)=decide (a=b)
 | [],[]=>by simp [PyData.eqvAll]
 | [],_::_=>by simp [PyData.eqvAll]
 | _::_,[]=>by simp [PyData.eqvAll]
 | x::r,y::s=>by
  rw [Qy,Qy,PyData.eqvAll,lN r s,PyData.eqv]
  by_cases h:x=y
  ·by_cases h2:r=s
   ·simp [h,h2]
   ·simp [h,h2]
  ·simp [h]
theorem pF (a b:List Int):PyData.eqv (.list (a.map .int)) (.list (b.map .int))=decide (a=b):=by rw [PyData.eqv,lN]
theorem aCs (a b:List Int):PyData.eqv (.tuple (a.map .int)) (.tuple (b.map .int))=decide (a=b):=by rw [PyData.eqv,lN]
theorem sz1 (x:V) : [x].length<=sizeLine:=by rw [Rf]; simp
theorem sz2 (x y:V) : [x,y].length<=sizeLine:=by rw [Rf]; simp
theorem cZ {n:Nat} (h:n<=1000):n<=sizeLine:=by rw [Rf]; omega
def aAs (K:Rc):Sp:=λvs H Q _=>∃ (t a:Addr) (ns:List Int) (n kd:Int),vs = [.ref t,.int n,.int kd]/\fP K H t a ns/\1<=n/\n<=6/\∀ l p H',cO n (bM l)=true->But t H H'->fP K H' t a ns->SqT K H' p (l.map V.int)->Q (.ref p) H'
theorem rV:FnScope ["tape", "hands", "kind", "first", "often", "some"] ["tape", "hands", "kind"] (aG uB):=⟨rfl,rfl,rfl,by decide +kernel,rfl,by decide +kernel,by decide +kernel⟩
theorem aFk (G:Fn K mg "_law_b_work" uB ["tape", "hands", "kind"] f fd) (B:Bl mg) (GD:Fn K mg "_law_b_digit" pD ["tape", "many"] fD fdD) (OD:FnOk P w K mg base CX0 2 fD fdD ["tape", "many"] (oB K)):FnOk P w K mg base CX0 3 f fd ["tape", "hands", "kind"] (aAs K):=by
 refine G.fn.ok rV (λvs H Q E h=>?_) (λcdv A outer s H vs Q E hr h=>?_)
 ·obtain ⟨t,a,ns,n,kd,rfl,_⟩:=h
  rfl
 ·obtain ⟨t,a,ns,n,kd,rfl,hT,hn1,hn6,k⟩:=h
  refine ⟨_,aE (aS (i:=3) rV.nd rfl (Or.inr rfl) (bF GD OD hr rfl (aA (pv 0) (aA (pv 1) aC))))
   (aE (cJ (bE gC (pv 2) aI (bD _)) (aJ (aX (cH (aA (pv 3) aC)))) bI)
   (aE (cJ (bE gC (pv 2) aI (bD _)) (aJ (aX (bR bV rfl B.tuple cM (aA (aM (nQ rfl) rfl B.sorted jW (aA (bR (mY (w:=w) (K:=K) rfl rfl rfl) rfl B.set aBc (aA (eP (aA (pv 3) (aA (bH kG (bH cV (pv 3) aI) (pv 1)) aC))) aC)) aC)) aC)))) bI)
   (aE (cJ (bE gC (pv 2) aI (bD _)) (aJ (aX (bR (rA rfl) rfl B.tuple cM (aA (bR xB rfl B.range aFb (aA (pv 1) aC)) aC)))) bI)
   (aE (aS (i:=4) rV.nd rfl (Or.inr rfl) (bH cV aI (bF GD OD hr rfl (aA (pv 0) (aA aI aC)))))
   (aE (aS (i:=5) rV.nd rfl (Or.inr rfl)
    (cB (own:=["hand"]) (fr:=[3,4,0]) (frn:=["first", "often", "tape"]) (bG (aG uB) ["tape", "hands", "kind", "first", "often", "some"] rfl rfl (by decide +kernel)) rfl (dP rfl B.range (aA (pv 1) aC))
     (λ_ _ _ _=>aK (i:=0) (show (["hand", "first", "often", "tape"]:List Str).Nodup by decide +kernel) rfl (Or.inl rfl))
     (λ_ _ _ _=>mW (PW.pt (jB (bE gC (pv 0) (pv 1) (bD _)) (gL (bE gC (bF GD OD hr rfl (aA (pv 3) (aA (pv 2) aC))) aI (bD _))))))
     (λ_ _ _ _=>pv 0)))
   (aE (cJ (PW.pt (zM (bE gC (pv 2) aI (bD _)) (uT (bE wS (aM aY rfl B.len eV (aA (pv 5) aC)) (pv 1) (bD _)))))
    (aJ (aS (i:=5) rV.nd rfl (Or.inr rfl)
     (cB (own:=["hand"]) (fr:=[5]) (frn:=["some"]) (bG (aG uB) ["tape", "hands", "kind", "first", "often", "some"] rfl rfl (by decide +kernel)) rfl (eZ (pv 5))
      (λ_ _ _ _=>aK (i:=0) (show (["hand", "some"]:List Str).Nodup by decide +kernel) rfl (Or.inl rfl))
      (λ_ _ _ _=>mW (PW.pt (jB (bE aAU (pv 0) aI (bD _)) (gL (bE (aBm (K:=K) rfl hr.u64) (pv 1) (eP (aA aI aC)) (bD _))))))
      (λ_ _ _ _=>pv 0)))) bI)
   (aJ (aX (bR bV rfl B.tuple cM (aA (pv 5) aC)))))))))),?_⟩
  refine ⟨_,rfl,_,rfl,t,a,ns,n,rfl,hT,by omega,by omega,λfirst H1 hf0 hf1 b1 T1=>?_⟩
  obtain ⟨fn,rfl⟩:∃ fn:Nat,first=fn:=⟨first.toNat,by omega⟩
  obtain ⟨m,rfl⟩:∃ m:Nat,n=m:=⟨n.toNat,by omega⟩
  refine ⟨_,rfl,rfl,_,rfl,?_⟩
  refine cU (λc1=>?_) (λc1=>?_)
  ·refine ⟨_,rfl,sz1 _,λp hp=>?_⟩
   refine k [(fn:Int)] p _ (iI (by simp) (λx hx=>?_) (by simp)) (b1.trans (But.of (aD.new hp))) (T1.same (aD.new hp)) (SqT.of aB)
   rw [Qo] at hx
   omega
  refine ⟨_,rfl,rfl,_,rfl,?_⟩
  refine cU (λc2=>?_) (λc2=>?_)
  ·have hmod0:0<=((fn:Int)+1) % (m:Int):=Xt _ (by omega)
   have hmod1:((fn:Int)+1) % (m:Int) < m:=Xi _ (by omega)
   have hg:∃ g:Nat,((fn:Int)+1) % (m:Int)=g:=⟨(((fn:Int)+1) % (m:Int)).toNat,by omega⟩
   obtain ⟨g,hg⟩:=hg
   refine ⟨_,rfl,_,rfl,_,_,rfl,rfl,_,rfl,_,_,rfl,rfl,(show (0:Int) < (m:Int) by omega),sz2 _ _,λl hl=>?_⟩
   rw [hg] at hmod0 hmod1
   refine ⟨l,[(fn:Int),(g:Int)],[(fn:Int),(g:Int)],rfl,SqL.of (by rw [aB]; show some (HO.lst [V.int (fn:Int),V.int (((fn:Int)+1) % (m:Int))])=_; rw [hg]; rfl),by show 2<=11; decide,λ_ h=>h,λp us hp _ hu hle=>⟨p,us,rfl,aB,by omega,λq out hso hq=>⟨q,_,rfl,.inl ⟨SqL.of aB,λr hr2=>?_⟩⟩⟩⟩
   have sm:=((aD.new (o:=.lst [.int (fn:Int),.int (((fn:Int)+1) % (m:Int))]) hl).trans ((aD.new hp).trans ((aD.new hq).trans (aD.new (o:=.tup (out.map V.int)) hr2))))
   have mo:∀ x,x∈out↔x∈[(fn:Int),(g:Int)]:=λx=>(hso.2 x).trans (hu x)
   refine k out r _ (iI (Qan ((mo fn).mpr (Qj ..))) (λx hx=>?_) hso.1) (b1.trans (But.of sm)) (T1.same sm) (SqT.of aB)
   have e:=(mo x).mp hx
   simp only [Qn,Qs,or_false] at e
   rcases e with e | e <;> omega
  refine ⟨_,rfl,rfl,_,rfl,?_⟩
  refine cU (λc3=>?_) (λc3=>?_)
  ·refine ⟨_,rfl,(m:Int),rfl,λp hp=>⟨p,m,rfl,aB,by omega,λq H' s' hq=>?_⟩⟩
   have sm:=(aD.new hp).trans s'
   refine k (bZ m) q H' (iI (λz=>?_) (λx hx=>aDU.mp hx) (aAr m)) (b1.trans (But.of sm)) (T1.same sm) hq
   have:=lM m
   rw [z] at this
   simp at this
   omega
  refine ⟨_,rfl,t,a,ns,3,rfl,T1,by decide,by decide,λr H2 hr0 hr1 b2 T2=>⟨_,_,rfl,rfl,?_⟩⟩
  have b02:=b1.trans b2
  refine ⟨_,rfl,(m:Int),rfl,by omega,by omega,dZ (lo:=0) (n:=((m:Int)).toNat) (λσ=>∃ v,σ = [v,some (.int (fn:Int)),some (.int (2+r)),some (.ref t)])
   (λi ys H3=>∃ l:List Int,ys=l.map V.int/\l.Pairwise (· < ·)/\(∀ x∈l,0<=x/\x < i)/\(fn < i->l≠[])/\But t H H3/\fP K H3 t a ns) (cZ (by omega)) ⟨none,rfl⟩
   ⟨[],rfl,.nil,λ_ h=>(Qs h).elim,λh=>(Zm _ h).elim,b02,T2⟩ ?_ ?_ ?_⟩
  ·rintro i ys H3 ⟨l,rfl,h1,h2,_⟩
   rw [Qb]
   have:=eG (n:=(i:Int)) (by omega) h2 h1
   omega
  ·rintro i ys σ H3 hi ⟨v,rfl⟩ ⟨l,rfl,h1,h2,h3,b3,T3⟩ hz
   have hnext:(l++[(i:Int)]).Pairwise (· < ·)/\∀ x∈l++[(i:Int)],0<=x/\x < ((i+1:Nat):Int):=by
    refine ⟨Zz.mpr ⟨h1,by simp,λx hx y hy=>?_⟩,λx hx=>?_⟩
    ·rw [Qo] at hy
     have:=(h2 x hx).2
     omega
    ·rcases Jh.mp hx with hx | hx
     ·have:=h2 x hx
      omega
     ·rw [Qo] at hx
      omega
   refine ⟨_,rfl,_,rfl,rfl,_,rfl,?_⟩
   refine cU (λc4=>?_) (λc4=>?_)
   ·refine fZ ?_
    refine ⟨_,rfl,hz,⟨_,rfl⟩,l++[(i:Int)],by simp,hnext.1,hnext.2,λ_=>by simp,b3,T3⟩
   ·have c4':¬ (fn:Int)=i:=λz=>c4 (by simp [z])
    refine ⟨_,rfl,_,rfl,t,a,ns,2+r,rfl,T3,by omega,by omega,λr4 H4 hr40 hr41 b4 T4=>⟨rfl,_,rfl,?_⟩⟩
    refine cU (λc5=>?_) (λc5=>?_)
    ·refine ⟨_,rfl,hz,⟨_,rfl⟩,l++[(i:Int)],by simp,hnext.1,hnext.2,λ_=>by simp,b3.trans b4,T4⟩
    ·refine ⟨⟨_,rfl⟩,l,rfl,h1,λx hx=>?_,λh=>h3 (by omega),b3.trans b4,T4⟩
     have:=h2 x hx
     omega
  ·rintro ys H3 ⟨l,rfl,h1,h2,h3,b3,T3⟩ p hp
   have hl0:l≠[]:=h3 (by omega)
   have h2':∀ x∈l,0<=x/\x < (m:Int):=λx hx=>by have:=h2 x hx; omega
   have hshort:=eG (by omega) h2' h1
   have sp:=aD.new (o:=.lst (l.map V.int)) hp
   have T3':=T3.same sp
   have b3':=b3.trans (But.of sp)
   have ntp:p≠t:=T3.ne hp
   have hpl:upd H3 p (.lst (l.map V.int)) p=some (.lst (l.map V.int)):=aB
   generalize hH5:upd H3 p (.lst (l.map V.int))=H5 at T3' b3' hpl ⊢
   refine ⟨_,rfl,rfl,_,rfl,?_⟩
   refine cU (λc4=>?_) (λc4=>?_)
   ·refine ⟨_,rfl,p,_,rfl,.inl (SqL.of hpl),_,rfl,_,_,rfl,rfl,_,rfl,?_⟩
    refine cU (λc5=>?_) (λc5=>?_)
    ·refine ⟨_,rfl,p,rfl,⟨_,SqL.of hpl⟩,jU (K:=K) (a:=p) (xs:=l.map V.int) (λσ=>∃ v,σ = [v,some (.ref p)]) (λi ys H6=>aD H5 H6/\ys=((l.take i).filter λh=>decide (0 < h) || decide (l = [0])).map V.int) (cZ (by rw [Qb]; omega)) ⟨none,rfl⟩ ⟨aD.refl _,rfl⟩ ?_ ?_ ?_ ?_⟩
     ·rintro i ys H6 ⟨_,rfl⟩
      rw [Qb]
      exact Je (Xo _ _) (by rw [Qv]; omega)
     ·rintro i ys H6 ⟨s6,_⟩
      exact s6.seqL (SqL.of hpl)
     ·rintro i ys σ x H6 hx ⟨v,rfl⟩ ⟨s6,rfl⟩ hz
      rw [Qe] at hx
      obtain ⟨h,hh,rfl⟩:∃ h,l[i]?=some h/\V.int h=x:=by
       cases q:l[i]? with
       | none=>rw [q] at hx; cases hx
       | some h=>rw [q] at hx; exact ⟨h,rfl,Option.some.inj hx⟩
      have etake:l.take (i+1)=l.take i++[h]:=by rw [Jd,hh]; rfl
      refine ⟨_,rfl,_,_,rfl,rfl,_,rfl,?_⟩
      refine cU (λc6=>?_) (λc6=>?_)
      ·refine fZ ?_
       refine ⟨_,rfl,hz,⟨_,rfl⟩,s6,?_⟩
       rw [etake,Xj,Qp]
       simp [of_decide_eq_true c6]
      ·refine ⟨_,rfl,sz1 _,λq hq=>?_⟩
       have s7:=s6.trans (aD.new (o:=.lst [V.int 0]) hq)
       refine ⟨.list (l.map .int),.list ([0].map .int),oU.mpr ⟨p,rfl,s7.seqL (SqL.of hpl)⟩,oU.mpr ⟨q,rfl,SqL.of aB⟩,eE _,eE _,eS _,eS _,_,rfl,?_⟩
       rw [pF]
       refine cU (λc7=>?_) (λc7=>?_)
       ·refine ⟨_,rfl,hz,⟨_,rfl⟩,s7,?_⟩
        rw [etake,Xj,Qp]
        simp [of_decide_eq_true c7]
       ·refine ⟨⟨_,rfl⟩,s7,?_⟩
        rw [etake,Xj,Qp]
        have c6':¬ 0 < h:=λz=>c6 (decide_eq_true z)
        have c7':¬ l = [0]:=λz=>c7 (decide_eq_true z)
        simp [c6',c7']
     ·rintro ys H6 ⟨s6,rfl⟩ q hq
      rw [Qb,Jf]
      have hsub:(l.filter λh=>decide (0 < h) || decide (l = [0])).Sublist l:=Qaf
      refine ⟨_,rfl,q,_,rfl,.inl ⟨SqL.of aB,λr5 hr5=>?_⟩⟩
      have sm:=s6.trans ((aD.new (o:=.lst ((l.filter λh=>decide (0 < h) || decide (l = [0])).map V.int)) hq).trans (aD.new (o:=.tup ((l.filter λh=>decide (0 < h) || decide (l = [0])).map V.int)) hr5))
      refine k (l.filter λh=>decide (0 < h) || decide (l = [0])) r5 _ (iI ?_ (λx hx=>h2' x (hsub.mem hx)) (h1.sublist hsub)) (b3'.trans (But.of sm)) (T3'.same sm) (SqT.of aB)
      intro z
      rw [List.filter_eq_nil_iff] at z
      by_cases hl:l = [0]
      ·have:=z 0 (by rw [hl]; simp)
       simp [hl] at this
      ·apply hl
       have hall:∀ x∈l,x=0:=λx hx=>by
        have hz:=z x hx
        have:=(h2' x hx).1
        simp [hl] at hz
        omega
       match l,hl0,h1,hall with
       | [x],_,_,ha=>rw [ha x (Qo.mpr rfl)]
       | x::y::r,_,hp,ha =>
        exfalso
        have h3:=(Ze.mp hp).1 y (Qj ..)
        rw [ha x (Qj ..),ha y (Qk _ (Qj ..))] at h3
        omega
    ·refine ⟨_,rfl,p,_,rfl,.inl ⟨SqL.of hpl,λq hq=>?_⟩⟩
     exact k l q _ (iI hl0 h2' h1) (b3'.trans (But.of (aD.new hq))) (T3'.same (aD.new hq)) (SqT.of aB)
   ·refine gX ?_
    refine ⟨_,rfl,p,_,rfl,.inl ⟨SqL.of hpl,λq hq=>?_⟩⟩
    exact k l q _ (iI hl0 h2' h1) (b3'.trans (But.of (aD.new hq))) (T3'.same (aD.new hq)) (SqT.of aB)
def Far (K:Rc) (a f:Addr) (ns:List Int):Prop:=a≠f∨∀ H,SqL K H a (ns.map V.int)
theorem aGB (h:SqL K H a (ns.map V.int)) (hf:H f=none):Far K a f ns:=by
 rcases h with (h | ⟨o,h⟩) | h
 ·exact .inl λz=>by rw [z,hf] at h; cases h
 ·exact .inl λz=>by rw [z,hf] at h; cases h
 ·exact .inr λ_=>.inr h
theorem fP.wr {t:Addr} (T:fP K H t a ns) (b:But f H H') (n:t≠f) (F:Far K a f ns):fP K H' t a ns:=by
 obtain ⟨⟨p,q,h1,h2⟩,h3⟩:=T
 refine ⟨⟨p,q,h1,b t _ n h2⟩,?_⟩
 rcases F with F | F
 ·exact b.seqL F h3
 ·exact F H'
theorem rW {h:Int}:gF (.int h) l=true↔h∈l:=by
 show (l.any (·==h))=true↔_
 rw [Yc]
 constructor
 ·rintro ⟨x,hx,e⟩
  have:x=h:=by simpa using e
  exact this ▸ hx
 ·exact λhx=>⟨h,hx,by simp⟩
theorem fJ (h1:hs.length=ws.length) (h2:∀ (j:Nat) (h:Int) (l:List Int),hs[j]?=some h->ws[j]?=some l->h∈l):bJ ws (bA hs)=true:=by
 show (decide ((hs.map PyData.int).length=ws.length) && ((hs.map PyData.int).zip ws).all λp=>gF p.1 p.2)=true
 rw [Qb,decide_eq_true h1,Zs,Jt]
 rintro ⟨d,l⟩ hm
 obtain ⟨j,hj⟩:=Jb.mp hm
 rw [Jl] at hj
 obtain ⟨hj1,hj2⟩:=hj
 have hj1:(hs.map PyData.int)[j]?=some d:=hj1
 have hj2:ws[j]?=some l:=hj2
 rw [Qe] at hj1
 cases q:hs[j]? with
 | none=>rw [q] at hj1; cases hj1
 | some h =>
  rw [q] at hj1
  obtain rfl:PyData.int h=d:=Option.some.inj hj1
  exact rW.mpr (h2 j h l q hj2)
theorem aR (h:bJ ws (bA hs)=true):hs.length=ws.length/\∀ (j:Nat) (h:Int) (l:List Int),hs[j]?=some h->ws[j]?=some l->h∈l:=by
 have h':(decide ((hs.map PyData.int).length=ws.length) && ((hs.map PyData.int).zip ws).all λp=>gF p.1 p.2)=true:=h
 rw [Qb,Jn,Jt] at h'
 refine ⟨of_decide_eq_true h'.1,λj h l hj hl=>?_⟩
 refine rW.mp (h'.2 (.int h,l) (Qi (i:=j) ?_))
 rw [Jl]
 exact ⟨by rw [Qe,hj]; rfl,hl⟩
theorem kL (h1:1<=n) (h2:n<=6) (h3:ws.length<=12) (h4:∀ l∈ws,cO n (bM l)=true):bC (aV n ws)=true:=by
 show (decide (1<=n) && decide (n<=6) && decide ((ws.map bM).length<=12) && (ws.map bM).all (cO n))=true
 rw [decide_eq_true h1,decide_eq_true h2,Qb,decide_eq_true h3,Zs,Zs,Zs,Jt]
 intro d hd
 obtain ⟨l,hl,rfl⟩:=Qw.mp hd
 exact h4 l hl
theorem iQ (h1:SqT K H a [.int n,.ref b]) (h2:SqT K H b ys) (h3:aT K H (ws.map bM) ys):Den K H (aV n ws) (.ref a) :=
 cC.mpr ⟨a,_,rfl,h1,aL.mpr ⟨_,_,rfl,cK.mpr rfl,aL.mpr ⟨_,_,rfl,cC.mpr ⟨b,ys,rfl,h2,h3⟩,aO.mpr rfl⟩⟩⟩
def aDV (K:Rc):Sp:=λvs H Q _=>∃ (t a:Addr) (ns:List Int),vs = [.ref t,.int 6,.int 12]/\fP K H t a ns/\∀ n ws p H',bC (aV n ws)=true->But t H H'->fP K H' t a ns->Den K H' (aV n ws) (.ref p)->Q (.ref p) H'
theorem nC:FnScope ["tape", "hands", "works", "many", "kind", "found", "k", "sort"] ["tape", "hands", "works"] (aG aBf):=⟨rfl,rfl,rfl,by decide +kernel,rfl,by decide +kernel,by decide +kernel⟩
theorem aFl {fdK:FuncData} (G:Fn K mg "_law_b_book" aBf ["tape", "hands", "works"] f fd) (B:Bl mg) (GD:Fn K mg "_law_b_digit" pD ["tape", "many"] fD fdD) (OD:FnOk P w K mg base CX0 2 fD fdD ["tape", "many"] (oB K)) (GK:Fn K mg "_law_b_work" uB ["tape", "hands", "kind"] fK fdK) (OK:FnOk P w K mg base CX0 3 fK fdK ["tape", "hands", "kind"] (aAs K)):FnOk P w K mg base CX0 4 f fd ["tape", "hands", "works"] (aDV K):=by
 refine G.fn.ok nC (λvs H Q E h=>?_) (λcdv A outer s H vs Q E hr h=>?_)
 ·obtain ⟨t,a,ns,rfl,_⟩:=h
  rfl
 ·obtain ⟨t,a,ns,rfl,hT,k⟩:=h
  have hr2:Room 2 _:=hr.mono (by decide)
  refine ⟨_,aE (aS (i:=3) nC.nd rfl (Or.inl rfl) (bH cV aI (bF GD OD hr2 rfl (aA (pv 0) (aA (pv 1) aC)))))
   (aE (aS (i:=4) nC.nd rfl (Or.inl rfl) (bF GD OD hr2 rfl (aA (pv 0) (aA aI aC))))
   (aE (aS (i:=5) nC.nd rfl (Or.inl rfl) (eP aC))
   (aE (eF PassesOwn.never rfl (dP rfl B.range (aA (bF GD OD hr2 rfl (aA (pv 0) (aA (bH cV (pv 2) aI) aC))) aC)) (aK (i:=6) nC.nd rfl (Or.inl rfl))
    (aE (aS (i:=7) nC.nd rfl (Or.inl rfl) (pv 4))
    (aE (cJ (bE aAU (pv 4) aI (bD _)) (aJ (aS (i:=7) nC.nd rfl (Or.inl rfl) (bF GD OD hr2 rfl (aA (pv 0) (aA aI aC))))) bI)
    (aJ (gA (nH Rw Ry Rz iO (pv 5) (aA (bF GK OK hr rfl (aA (pv 0) (aA (pv 3) (aA (pv 7) aC)))) aC)))))))
   (aJ (aX (cH (aA (pv 3) (aA (bR bV rfl B.tuple cM (aA (pv 5) aC)) aC)))))))),?_⟩
  refine ⟨_,rfl,_,rfl,t,a,ns,6,rfl,hT,by decide,by decide,λr H1 hr0 hr1 b1 T1=>⟨_,_,rfl,rfl,?_⟩⟩
  refine ⟨_,rfl,t,a,ns,8,rfl,T1,by decide,by decide,λkd H2 hk0 hk1 b2 T2=>?_⟩
  refine ⟨cZ (Jr _),λfl hfl=>?_⟩
  have ntf:t≠fl:=λz=>T2.ne hfl z.symm
  have F:Far K a fl ns:=aGB T2.2 hfl
  have s3:=aD.new (o:=.lst []) hfl
  have hfl0:H fl=none:=(b1.trans b2).free hfl (Ne.symm ntf)
  have T3:=T2.same s3
  have b03:=b1.trans (b2.trans (But.of s3))
  have hfl3:upd H2 fl (.lst []) fl=some (.lst []):=aB
  generalize hH3:upd H2 fl (.lst [])=H3 at T3 b03 hfl3 ⊢
  refine ⟨_,rfl,_,rfl,_,_,rfl,rfl,t,a,ns,13,rfl,T3,by decide,by decide,λm H4 hm0 hm1 b4 T4=>?_⟩
  refine ⟨m,rfl,by omega,by omega,oR (lo:=0) (n:=m.toNat) (λi σ H5=>∃ (ws:List (List Int)) (xs:List V) (v v2:Option V),σ = [some (.ref t),some (.int 6),some (.int 12),some (.int (1+r)),some (.int kd),some (.ref fl),v,v2]/\ws.length=i /\
   (∀ l∈ws,cO (1+r) (bM l)=true)/\H5 fl=some (.lst xs)/\aT K H5 (ws.map bM) xs/\But t H H5/\fP K H5 t a ns)
   ⟨[],[],none,none,rfl,rfl,λ_ h=>(Qs h).elim,b4 fl _ (Ne.symm ntf) hfl3,aO.mpr rfl,b03.trans b4,T4⟩ ?_ ?_⟩
  ·rintro i σ H5 hi ⟨ws,xs,v,v2,rfl,hl,hw,hx,hd,b5,T5⟩
   have hxl:xs.length=i:=by rw [aN hd,Qb,hl]
   refine ⟨_,rfl,?_⟩
   refine ⟨_,rfl,_,_,rfl,rfl,_,rfl,?_⟩
   refine cU (λc1=>?_) (λc1=>?_)
   ·refine ⟨_,rfl,t,a,ns,5,rfl,T5,by decide,by decide,λr2 H6 hr20 hr21 b6 T6=>?_⟩
    obtain ⟨⟨p5,q5,h5,ht5⟩,hs5⟩:=id T5
    have hx6:H6 fl=some (.lst xs):=b6 fl _ (Ne.symm ntf) hx
    have hd6:=b6.denAll ht5 _ _ (cT _ dU ws) hd
    refine ⟨_,rfl,.inl ⟨rfl,_,SqL.of hx6⟩,_,rfl,_,rfl,_,rfl,t,a,ns,1+r,r2,rfl,T6,by omega,by omega,λl p H7 hwk b7 T7 hp7=>?_⟩
    obtain ⟨⟨p6,q6,h6,ht6⟩,hs6⟩:=id T6
    have hx7:H7 fl=some (.lst xs):=b7 fl _ (Ne.symm ntf) hx6
    have hd7:=b7.denAll ht6 _ _ (cT _ dU ws) hd6
    refine ⟨fl,xs,.ref p,rfl,rfl,hx7,by rw [Rf]; omega,?_⟩
    have b8:But fl H7 (upd H7 fl (.lst (xs++[.ref p]))):=But.at
    refine ⟨ws++[l],xs++[.ref p],_,_,rfl,by rw [Qq,hl]; rfl,λl2 hl2=>?_,aB,?_,(λb o nb hb=>by rw [aH (λz=>by rw [z,hfl0] at hb; cases hb)]; exact ((b5.trans b6).trans b7) b o nb hb),T7.wr b8 ntf F⟩
    ·rcases Jh.mp hl2 with h | h
     ·exact hw l2 h
     ·rw [Qo.mp h]; exact hwk
    ·rw [Qp]
     refine bO (b8.denAll hx7 _ _ (cT _ dU ws) hd7) (aL.mpr ⟨_,_,rfl,?_,aO.mpr rfl⟩)
     exact aP.mpr ⟨p,rfl,b8.seqT hx7 hp7⟩
   ·show _
    obtain ⟨⟨p5,q5,h5,ht5⟩,hs5⟩:=id T5
    have hx6:H5 fl=some (.lst xs):=(But.refl t H5) fl _ (Ne.symm ntf) hx
    have hd6:=(But.refl t H5).denAll ht5 _ _ (cT _ dU ws) hd
    refine ⟨_,rfl,.inl ⟨rfl,_,SqL.of hx6⟩,_,rfl,_,rfl,_,rfl,t,a,ns,1+r,kd,rfl,T5,by omega,by omega,λl p H7 hwk b7 T7 hp7=>?_⟩
    obtain ⟨⟨p6,q6,h6,ht6⟩,hs6⟩:=id T5
    have hx7:H7 fl=some (.lst xs):=b7 fl _ (Ne.symm ntf) hx6
    have hd7:=b7.denAll ht6 _ _ (cT _ dU ws) hd6
    refine ⟨fl,xs,.ref p,rfl,rfl,hx7,by rw [Rf]; omega,?_⟩
    have b8:But fl H7 (upd H7 fl (.lst (xs++[.ref p]))):=But.at
    refine ⟨ws++[l],xs++[.ref p],_,_,rfl,by rw [Qq,hl]; rfl,λl2 hl2=>?_,aB,?_,(λb o nb hb=>by rw [aH (λz=>by rw [z,hfl0] at hb; cases hb)]; exact ((b5.trans (But.refl t H5)).trans b7) b o nb hb),T7.wr b8 ntf F⟩
    ·rcases Jh.mp hl2 with h | h
     ·exact hw l2 h
     ·rw [Qo.mp h]; exact hwk
    ·rw [Qp]
     refine bO (b8.denAll hx7 _ _ (cT _ dU ws) hd7) (aL.mpr ⟨_,_,rfl,?_,aO.mpr rfl⟩)
     exact aP.mpr ⟨p,rfl,b8.seqT hx7 hp7⟩
  ·rintro σ H5 ⟨ws,xs,v,v2,rfl,hl,hw,hx,hd,b5,T5⟩
   refine ⟨_,rfl,_,rfl,fl,_,rfl,.inl ⟨SqL.of hx,λq hq=>⟨sz2 _ _,λp hp=>?_⟩⟩⟩
   have sm:=(aD.new (o:=.tup xs) hq).trans (aD.new (o:=.tup [.int (1+r),.ref q]) hp)
   refine k (1+r) ws p _ (kL (by omega) (by omega) (by omega) hw) (b5.trans (But.of sm)) (T5.same sm) ?_
   refine iQ (SqT.of aB) ((aD.new hp).seqT (SqT.of aB)) (sm.denAll _ _ hd)
theorem eR.hand (g:eR K H x y n ws hs) {i:Nat} {h:Int} (e:hs[i]?=some h):0<=h/\h < n:=by
 obtain ⟨_,_,_,hw⟩:=bB g.2.1
 obtain ⟨hl,hd⟩:=aR g.2.2.2
 have hi:i < ws.length:=by rw [<- hl]; exact (Qd.mp e).1
 have hm:=hd i h ws[i] e (Qc hi)
 exact (bL (hw _ (Xb hi))).2.1 h hm
def aDW (K:Rc):Sp:=λvs H Q _=>∃ (t a:Addr) (ns:List Int) (x y:V) (n:Int) (ws:List (List Int)) (hs:List Int),vs = [.ref t,x,y]/\fP K H t a ns/\eR K H x y n ws hs/\∀ p n' ws' H',But t H H'->fP K H' t a ns->eR K H' (.ref p) y n' ws' hs->Q (.ref p) H'
theorem aAt:FnScope ["tape", "book", "deal", "at", "able"] ["tape", "book", "deal"] (aG yG):=⟨rfl,rfl,rfl,by decide +kernel,rfl,by decide +kernel,by decide +kernel⟩
theorem aFm (G:Fn K mg "_law_b_twin" yG ["tape", "book", "deal"] f fd) (B:Bl mg) (GD:Fn K mg "_law_b_digit" pD ["tape", "many"] fD fdD) (OD:FnOk P w K mg base CX0 2 fD fdD ["tape", "many"] (oB K)):FnOk P w K mg base CX0 3 f fd ["tape", "book", "deal"] (aDW K):=by
 refine G.fn.ok aAt (λvs H Q E h=>?_) (λcdv A outer s H vs Q E hr h=>?_)
 ·obtain ⟨t,a,ns,x,y,n,ws,hs,rfl,_⟩:=h
  rfl
 ·obtain ⟨t,a,ns,x,y,n,ws,hs,rfl,hT,g,k⟩:=h
  refine ⟨_,aE (cJ (PW.pt (jB (bE (zW hr.u64) (pv 2) (cH aC) (bD _)) (gL (PW.pt (zM (bE wS (aZ bY (pv 1) aI (λ_ _=>rfl)) aI (bD _)) (uT (bE gC (bF GD OD hr rfl (aA (pv 0) (aA aI aC))) aI (bD _))))))))
    (aJ (aX (cH (aA (bH cV aI (bH kG (aZ bY (pv 1) aI (λ_ _=>rfl)) aI)) (aA (aZ bY (pv 1) aI (λ_ _=>rfl)) aC))))) bI)
   (aE (aS (i:=3) aAt.nd rfl (Or.inr rfl) (bF GD OD hr rfl (aA (pv 0) (aA (aM aY rfl B.len eV (aA (pv 2) aC)) aC))))
   (aE (aS (i:=4) aAt.nd rfl (Or.inl rfl) (bR bV rfl B.tuple cM (aA
    (cB (own:=["hand"]) (fr:=[3,2,0]) (frn:=["at", "deal", "tape"]) (bG (aG yG) ["tape", "book", "deal", "at", "able"] rfl rfl (by decide +kernel)) rfl (dP rfl B.range (aA (aZ bY (pv 1) aI (λ_ _=>rfl)) aC))
     (λ_ _ _ _=>aK (i:=0) (show (["hand", "at", "deal", "tape"]:List Str).Nodup by decide +kernel) rfl (Or.inl rfl))
     (λ_ _ _ _=>mW (PW.pt (jB (bE gC (pv 0) (aZ (cN (K:=K) rfl) (pv 2) (pv 1) (λ_ _=>rfl)) (bD _)) (gL (bE gC (bF GD OD hr rfl (aA (pv 3) (aA aI aC))) aI (bD _))))))
     (λ_ _ _ _=>pv 0)) aC)))
   (aJ (aX (cH (aA (aZ bY (pv 1) aI (λ_ _=>rfl)) (aA (bH qH (bH qH (eW vA (aZ bY (pv 1) aI (λ_ _=>rfl)) gR (gS (pv 3))) (cH (aA (pv 4) aC)))
    (eW vA (aZ bY (pv 1) aI (λ_ _=>rfl)) (gS (bH cV (pv 3) aI)) gR)) aC))))))),?_⟩
  obtain ⟨hl12,hn1,hn6⟩:=g.len
  obtain ⟨_,_,hw12,hws⟩:=bB g.2.1
  obtain ⟨hdl,hdg⟩:=aR g.2.2.2
  obtain ⟨ba,bb,ys,rfl,ha,hb2,hys⟩:=cY g.1
  obtain ⟨c,rfl,hc⟩:=aP.mp g.2.2.1
  have hlw:=aN hys
  rw [Qb] at hlw
  have grow:(hs = []∨n < 6)->bC (aV (1+n % 6) ws)=true:=λh=>by
   rcases h with h | h
   ·have e:ws = []:=by rw [h] at hdl; exact Jp.mp hdl.symm
    rw [e]
    exact kL (by omega) (by omega) (by simp) (λl hl=>(Qs hl).elim)
   ·rw [show 1+n % 6=n+1 by omega]
    refine kL (by omega) (by omega) hw12 λl hl=>?_
    obtain ⟨w1,w2,w3⟩:=bL (hws l hl)
    exact iI w1 (λx hx=>by have:=w2 x hx; omega) w3
  have facts:∀ H2,But t H H2->SqT K H2 ba [.int n,.ref bb]/\SqT K H2 bb ys/\aT K H2 (ws.map bM) ys/\SqT K H2 c (hs.map V.int):=λH2 b=>by
   refine ⟨hT.seqT b ha,hT.seqT b hb2,?_,hT.seqT b hc⟩
   obtain ⟨⟨p,q,_,ht⟩,_⟩:=hT
   exact b.denAll ht _ _ (cT _ dU ws) hys
  refine ⟨_,rfl,cZ (Jr _),λz hz=>?_⟩
  have s1:=aD.new (o:=.tup []) hz
  have b1:But t H (upd H z (.tup [])):=But.of s1
  have T1:=hT.same s1
  refine ⟨.tuple (hs.map .int),.tuple (([]:List Int).map .int),aP.mpr ⟨c,rfl,s1.seqT hc⟩,aP.mpr ⟨z,rfl,SqT.of aB⟩,oA _,oA _,nZ _,nZ _,_,rfl,?_⟩
  rw [aCs]
  generalize upd H z (.tup [])=H1 at b1 T1 ⊢
  have S1:=facts H1 b1
  refine cU (λc1=>?_) (λc1=>?_)
  ·have hc1:hs = []∨n < 6:=.inl (of_decide_eq_true c1)
   refine fZ ?_
   refine ⟨_,rfl,ba,_,0,.int n,rfl,rfl,S1.1,rfl,_,_,rfl,rfl,(show (0:Int) < 6 by decide),_,_,rfl,rfl,_,rfl,ba,_,1,.ref bb,rfl,rfl,S1.1,rfl,sz2 _ _,λp hp=>?_⟩
   have sp:=aD.new (o:=.tup [V.int (1+n % 6),.ref bb]) hp
   refine k p (1+n % 6) ws _ (b1.trans (But.of sp)) (T1.same sp) ⟨iQ (SqT.of aB) (sp.seqT S1.2.1) (sp.denAll _ _ S1.2.2.1),grow hc1,sp.den _ _ (aP.mpr ⟨c,rfl,S1.2.2.2⟩),g.2.2.2⟩
  ·have hne:hs≠[]:=λz=>c1 (decide_eq_true z)
   have hpos:0 < hs.length:=Xl.mpr hne
   refine ⟨_,rfl,ba,_,0,.int n,rfl,rfl,S1.1,rfl,_,_,rfl,rfl,_,rfl,?_⟩
   refine cU (λc2=>?_) (λc2=>?_)
   ·refine ⟨_,rfl,t,a,ns,3,rfl,T1,by decide,by decide,λr H2 hr0 hr1 b2' T2=>⟨rfl,_,rfl,?_⟩⟩
    have b2:=b1.trans b2'
    have S2:=facts H2 b2
    refine cU (λc3=>?_) (λc3=>?_)
    ·have hc1:hs = []∨n < 6:=.inr (of_decide_eq_true c2)
     refine ⟨_,rfl,ba,_,0,.int n,rfl,rfl,S2.1,rfl,_,_,rfl,rfl,(show (0:Int) < 6 by decide),_,_,rfl,rfl,_,rfl,ba,_,1,.ref bb,rfl,rfl,S2.1,rfl,sz2 _ _,λp hp=>?_⟩
     have sp:=aD.new (o:=.tup [V.int (1+n % 6),.ref bb]) hp
     refine k p (1+n % 6) ws _ (b2.trans (But.of sp)) (T2.same sp) ⟨iQ (SqT.of aB) (sp.seqT S2.2.1) (sp.denAll _ _ S2.2.2.1),grow hc1,sp.den _ _ (aP.mpr ⟨c,rfl,S2.2.2.2⟩),g.2.2.2⟩
    ·show _
     refine ⟨_,rfl,_,rfl,c,_,rfl,.inr S2.2.2.2,t,a,ns,_,rfl,T2,by rw [Qb]; omega,by rw [Qb]; omega,λr3 H3 h30 h31 b3' T3=>?_⟩
     rw [Qb] at h31
     have b3:=b2.trans b3'
     have S3:=facts H3 b3
     obtain ⟨m,rfl⟩:∃ m:Nat,r3=m:=⟨r3.toNat,by omega⟩
     have hm:m < hs.length:=by omega
     have hmw:m < ws.length:=by omega
     have hh:=Qc hm
     generalize hs[m]=h at hh
     have hhb:=g.hand hh
     have hat:atI (hs.map V.int) (m:Int)=some (.int h):=cF (by rw [Qe,hh]; rfl)
     refine ⟨_,rfl,ba,_,0,.int n,rfl,rfl,S3.1,rfl,n,rfl,by omega,by omega,dZ (lo:=0) (n:=n.toNat) (λσ=>∃ v,σ = [v,some (.int (m:Int)),some (.ref c),some (.ref t)])
      (λi ys H4=>∃ l:List Int,ys=l.map V.int/\l.Pairwise (· < ·)/\(∀ x∈l,0<=x/\x < i)/\(h < i->h∈l)/\But t H H4/\fP K H4 t a ns) (cZ (by omega)) ⟨none,rfl⟩
      ⟨[],rfl,.nil,λ_ h=>(Qs h).elim,λz=>by omega,b3,T3⟩ ?_ ?_ ?_⟩
     ·rintro i ys H4 ⟨l,rfl,h1,h2,_⟩
      rw [Qb]
      have:=eG (n:=(i:Int)) (by omega) h2 h1
      omega
     ·rintro i ys σ H4 hi ⟨v,rfl⟩ ⟨l,rfl,h1,h2,h3,b4,T4⟩ hz
      have S4:=facts H4 b4
      have hnext:(l++[(i:Int)]).Pairwise (· < ·)/\∀ x∈l++[(i:Int)],0<=x/\x < ((i+1:Nat):Int):=by
       refine ⟨Zz.mpr ⟨h1,by simp,λx hx y hy=>?_⟩,λx hx=>?_⟩
       ·rw [Qo] at hy
        have:=(h2 x hx).2
        omega
       ·rcases Jh.mp hx with hx | hx
        ·have:=h2 x hx
         omega
        ·rw [Qo] at hx
         omega
      refine ⟨_,rfl,_,rfl,_,rfl,c,_,_,_,rfl,rfl,S4.2.2.2,hat,rfl,_,rfl,?_⟩
      have hin:h < ((i+1:Nat):Int)->h∈l++[(i:Int)]:=λz=>by
       by_cases e:h < i
       ·exact Jv _ (h3 e)
       ·exact Jc _ (by rw [Qo]; omega)
      refine cU (λc4=>?_) (λc4=>?_)
      ·refine fZ ?_
       exact ⟨_,rfl,hz,⟨_,rfl⟩,l++[(i:Int)],by simp,hnext.1,hnext.2,hin,b4,T4⟩
      ·have c4':¬ (i:Int)=h:=λz=>c4 (by simp [z])
       refine ⟨_,rfl,t,a,ns,2,rfl,T4,by decide,by decide,λr5 H5 hr50 hr51 b5 T5=>⟨rfl,_,rfl,?_⟩⟩
       refine cU (λc5=>?_) (λc5=>?_)
       ·exact ⟨_,rfl,hz,⟨_,rfl⟩,l++[(i:Int)],by simp,hnext.1,hnext.2,hin,b4.trans b5,T5⟩
       ·refine ⟨⟨_,rfl⟩,l,rfl,h1,λx hx=>?_,λz=>h3 (by omega),b4.trans b5,T5⟩
        have:=h2 x hx
        omega
     ·rintro zs H4 ⟨l,rfl,h1,h2,h3,b4,T4⟩ p hp
      have hin:h∈l:=h3 (by omega)
      have hgood:cO n (bM l)=true:=iI (λz=>by rw [z] at hin; cases hin) (λx hx=>by have:=h2 x hx; omega) h1
      refine ⟨p,_,rfl,.inl ⟨SqL.of aB,λq hq=>?_⟩⟩
      have s5:=(aD.new (o:=.lst (l.map V.int)) hp).trans (aD.new (o:=.tup (l.map V.int)) hq)
      have b5:=b4.trans (But.of s5)
      have T5:=T4.same s5
      have hql:SqT K (upd (upd H4 p (.lst (l.map V.int))) q (.tup (l.map V.int))) q (l.map V.int):=SqT.of aB
      generalize upd (upd H4 p (.lst (l.map V.int))) q (.tup (l.map V.int))=H5 at s5 b5 T5 hql ⊢
      have S5:=facts H5 b5
      refine ⟨_,rfl,ba,_,0,.int n,rfl,rfl,S5.1,rfl,_,rfl,ba,_,1,.ref bb,rfl,rfl,S5.1,rfl,_,rfl,_,rfl,bb,ys,rfl,S5.2.1,λp1 H6 s6 hp1=>?_⟩
      rw [kJ] at hp1
      refine ⟨_,rfl,sz1 _,λp2 hp2=>⟨p1,p2,_,_,rfl,rfl,(aD.new hp2).seqT hp1,SqT.of aB,?_,λp3 H8 s8 hp3=>?_⟩⟩
      ·rw [Qv,Rf]; simp; omega
      have s68:=s6.trans ((aD.new (o:=.tup [V.ref q]) hp2).trans s8)
      refine ⟨_,rfl,ba,_,1,.ref bb,rfl,rfl,s68.seqT S5.1,rfl,_,rfl,_,_,rfl,rfl,_,rfl,bb,ys,rfl,s68.seqT S5.2.1,λp4 H9 s9 hp4=>?_⟩
      have hp4':SqT K H9 p4 (ys.drop (m+1)):=by
       have e:=jS ys (m+1)
       rw [<- e]
       exact hp4
      refine ⟨p3,p4,_,_,rfl,rfl,s9.seqT hp3,hp4',?_,λp5 H10 s10 hp5=>⟨sz2 _ _,λp6 hp6=>?_⟩⟩
      ·rw [Qq,Qv,Jy,Rf]; simp; omega
      have s6f:=s68.trans (s9.trans (s10.trans (aD.new (o:=.tup [V.int n,.ref p5]) hp6)))
      have bf:=b5.trans (But.of s6f)
      have Sf:=facts _ bf
      have ews:ws.take m++[l]++ws.drop (m+1)=ws.set m l:=by
       rw [Xu,if_pos hmw]; simp
      refine k p6 n (ws.set m l) _ bf (T5.same s6f) ⟨iQ (SqT.of aB) ((aD.new hp6).seqT hp5) ?_,kL hn1 hn6 (by rw [Xr]; exact hw12) (λl2 hl2=>?_),aP.mpr ⟨c,rfl,Sf.2.2.2⟩,fJ (by rw [Xr]; exact hdl) (λj h2 l2 e1 e2=>?_)⟩
      ·rw [<- ews,Qp,Qp,Zx,Yv]
       exact bO (bO (jE m Sf.2.2.1) (aL.mpr ⟨_,_,rfl,aP.mpr ⟨q,rfl,s6f.seqT hql⟩,aO.mpr rfl⟩)) (jF (m+1) Sf.2.2.1)
      ·rcases Wc hl2 with h | h
       ·exact hws l2 h
       ·rw [h]; exact hgood
      ·rw [Xz] at e2
       by_cases hj:m=j
       ·rw [if_pos hj,if_pos (by omega)] at e2
        obtain rfl:=Option.some.inj e2
        rw [<- hj,hh] at e1
        obtain rfl:=Option.some.inj e1
        exact hin
       ·rw [if_neg hj] at e2
        exact hdg j h2 l2 e1 e2
   ·refine gX ?_
    have S2:=S1
    have b2:=b1
    have T2:=T1
    refine ⟨_,rfl,_,rfl,c,_,rfl,.inr S2.2.2.2,t,a,ns,_,rfl,T2,by rw [Qb]; omega,by rw [Qb]; omega,λr3 H3 h30 h31 b3' T3=>?_⟩
    rw [Qb] at h31
    have b3:=b2.trans b3'
    have S3:=facts H3 b3
    obtain ⟨m,rfl⟩:∃ m:Nat,r3=m:=⟨r3.toNat,by omega⟩
    have hm:m < hs.length:=by omega
    have hmw:m < ws.length:=by omega
    have hh:=Qc hm
    generalize hs[m]=h at hh
    have hhb:=g.hand hh
    have hat:atI (hs.map V.int) (m:Int)=some (.int h):=cF (by rw [Qe,hh]; rfl)
    refine ⟨_,rfl,ba,_,0,.int n,rfl,rfl,S3.1,rfl,n,rfl,by omega,by omega,dZ (lo:=0) (n:=n.toNat) (λσ=>∃ v,σ = [v,some (.int (m:Int)),some (.ref c),some (.ref t)])
     (λi ys H4=>∃ l:List Int,ys=l.map V.int/\l.Pairwise (· < ·)/\(∀ x∈l,0<=x/\x < i)/\(h < i->h∈l)/\But t H H4/\fP K H4 t a ns) (cZ (by omega)) ⟨none,rfl⟩
     ⟨[],rfl,.nil,λ_ h=>(Qs h).elim,λz=>by omega,b3,T3⟩ ?_ ?_ ?_⟩
    ·rintro i ys H4 ⟨l,rfl,h1,h2,_⟩
     rw [Qb]
     have:=eG (n:=(i:Int)) (by omega) h2 h1
     omega
    ·rintro i ys σ H4 hi ⟨v,rfl⟩ ⟨l,rfl,h1,h2,h3,b4,T4⟩ hz
     have S4:=facts H4 b4
     have hnext:(l++[(i:Int)]).Pairwise (· < ·)/\∀ x∈l++[(i:Int)],0<=x/\x < ((i+1:Nat):Int):=by
      refine ⟨Zz.mpr ⟨h1,by simp,λx hx y hy=>?_⟩,λx hx=>?_⟩
      ·rw [Qo] at hy
       have:=(h2 x hx).2
       omega
      ·rcases Jh.mp hx with hx | hx
       ·have:=h2 x hx
        omega
       ·rw [Qo] at hx
        omega
     refine ⟨_,rfl,_,rfl,_,rfl,c,_,_,_,rfl,rfl,S4.2.2.2,hat,rfl,_,rfl,?_⟩
     have hin:h < ((i+1:Nat):Int)->h∈l++[(i:Int)]:=λz=>by
      by_cases e:h < i
      ·exact Jv _ (h3 e)
      ·exact Jc _ (by rw [Qo]; omega)
     refine cU (λc4=>?_) (λc4=>?_)
     ·refine fZ ?_
      exact ⟨_,rfl,hz,⟨_,rfl⟩,l++[(i:Int)],by simp,hnext.1,hnext.2,hin,b4,T4⟩
     ·have c4':¬ (i:Int)=h:=λz=>c4 (by simp [z])
      refine ⟨_,rfl,t,a,ns,2,rfl,T4,by decide,by decide,λr5 H5 hr50 hr51 b5 T5=>⟨rfl,_,rfl,?_⟩⟩
      refine cU (λc5=>?_) (λc5=>?_)
      ·exact ⟨_,rfl,hz,⟨_,rfl⟩,l++[(i:Int)],by simp,hnext.1,hnext.2,hin,b4.trans b5,T5⟩
      ·refine ⟨⟨_,rfl⟩,l,rfl,h1,λx hx=>?_,λz=>h3 (by omega),b4.trans b5,T5⟩
       have:=h2 x hx
       omega
    ·rintro zs H4 ⟨l,rfl,h1,h2,h3,b4,T4⟩ p hp
     have hin:h∈l:=h3 (by omega)
     have hgood:cO n (bM l)=true:=iI (λz=>by rw [z] at hin; cases hin) (λx hx=>by have:=h2 x hx; omega) h1
     refine ⟨p,_,rfl,.inl ⟨SqL.of aB,λq hq=>?_⟩⟩
     have s5:=(aD.new (o:=.lst (l.map V.int)) hp).trans (aD.new (o:=.tup (l.map V.int)) hq)
     have b5:=b4.trans (But.of s5)
     have T5:=T4.same s5
     have hql:SqT K (upd (upd H4 p (.lst (l.map V.int))) q (.tup (l.map V.int))) q (l.map V.int):=SqT.of aB
     generalize upd (upd H4 p (.lst (l.map V.int))) q (.tup (l.map V.int))=H5 at s5 b5 T5 hql ⊢
     have S5:=facts H5 b5
     refine ⟨_,rfl,ba,_,0,.int n,rfl,rfl,S5.1,rfl,_,rfl,ba,_,1,.ref bb,rfl,rfl,S5.1,rfl,_,rfl,_,rfl,bb,ys,rfl,S5.2.1,λp1 H6 s6 hp1=>?_⟩
     rw [kJ] at hp1
     refine ⟨_,rfl,sz1 _,λp2 hp2=>⟨p1,p2,_,_,rfl,rfl,(aD.new hp2).seqT hp1,SqT.of aB,?_,λp3 H8 s8 hp3=>?_⟩⟩
     ·rw [Qv,Rf]; simp; omega
     have s68:=s6.trans ((aD.new (o:=.tup [V.ref q]) hp2).trans s8)
     refine ⟨_,rfl,ba,_,1,.ref bb,rfl,rfl,s68.seqT S5.1,rfl,_,rfl,_,_,rfl,rfl,_,rfl,bb,ys,rfl,s68.seqT S5.2.1,λp4 H9 s9 hp4=>?_⟩
     have hp4':SqT K H9 p4 (ys.drop (m+1)):=by
      have e:=jS ys (m+1)
      rw [<- e]
      exact hp4
     refine ⟨p3,p4,_,_,rfl,rfl,s9.seqT hp3,hp4',?_,λp5 H10 s10 hp5=>⟨sz2 _ _,λp6 hp6=>?_⟩⟩
     ·rw [Qq,Qv,Jy,Rf]; simp; omega
     have s6f:=s68.trans (s9.trans (s10.trans (aD.new (o:=.tup [V.int n,.ref p5]) hp6)))
     have bf:=b5.trans (But.of s6f)
     have Sf:=facts _ bf
     have ews:ws.take m++[l]++ws.drop (m+1)=ws.set m l:=by
      rw [Xu,if_pos hmw]; simp
     refine k p6 n (ws.set m l) _ bf (T5.same s6f) ⟨iQ (SqT.of aB) ((aD.new hp6).seqT hp5) ?_,kL hn1 hn6 (by rw [Xr]; exact hw12) (λl2 hl2=>?_),aP.mpr ⟨c,rfl,Sf.2.2.2⟩,fJ (by rw [Xr]; exact hdl) (λj h2 l2 e1 e2=>?_)⟩
     ·rw [<- ews,Qp,Qp,Zx,Yv]
      exact bO (bO (jE m Sf.2.2.1) (aL.mpr ⟨_,_,rfl,aP.mpr ⟨q,rfl,s6f.seqT hql⟩,aO.mpr rfl⟩)) (jF (m+1) Sf.2.2.1)
     ·rcases Wc hl2 with h | h
      ·exact hws l2 h
      ·rw [h]; exact hgood
     ·rw [Xz] at e2
      by_cases hj:m=j
      ·rw [if_pos hj,if_pos (by omega)] at e2
       obtain rfl:=Option.some.inj e2
       rw [<- hj,hh] at e1
       obtain rfl:=Option.some.inj e1
       exact hin
      ·rw [if_neg hj] at e2
       exact hdg j h2 l2 e1 e2
theorem gN (h:j < n.toNat):(aF n hs)[j]?=some ((hs.count (j:Int):Nat):Int):=by
 unfold aF
 rw [Qe,yI h]
 rfl
theorem rX (h:n.toNat<=j):(aF n hs)[j]?=none:=by
 rw [Zh,eA]; exact h
theorem aAu (n:Int):(List.replicate n.toNat [V.int 0]).flatten=(aF n []).map V.int:=by
 rw [Yj]
 refine Zn λj=>?_
 rw [Qe]
 by_cases h:j < n.toNat
 ·rw [gN h,Xq,if_pos h]
  rfl
 ·rw [rX (by omega),Xq,if_neg h]
  rfl
theorem yO {h:Int} (h0:0<=h) (h1:h < n):((aF n hs).map V.int).set h.toNat (.int (((hs.count h:Nat):Int)+1))=(aF n (hs++[h])).map V.int:=by
 refine Zn λj=>?_
 by_cases hj:j < n.toNat
 ·rw [Qe,gN hj,Zy,Xz]
  have hl:((aF n hs).map V.int).length=n.toNat:=by rw [Qb,eA]
  by_cases e:h.toNat=j
  ·have e':(j:Int)=h:=by omega
   rw [if_pos e,if_pos (by rw [hl]; omega),e',Wz]
   simp
  ·have e':¬ h=(j:Int):=by omega
   rw [if_neg e,Qe,gN hj,Wz]
   simp [e']
 ·rw [Qe,rX (by omega),Zh.mpr]
  ·rfl
  ·rw [Xr,Qb,eA]; omega
def aBn (K:Rc):Sp:=λvs H Q _=>∃ x y n ws hs,vs = [x,y]/\eR K H x y n ws hs/\∀ p H',aD H H'->H p=none->H' p=some (.lst ((aF n hs).map V.int))->Q (.ref p) H'
theorem wE:FnScope ["book", "deal", "found", "hand"] ["book", "deal"] (aG vX):=⟨rfl,rfl,rfl,by decide +kernel,rfl,by decide +kernel,by decide +kernel⟩
theorem aDX (G:Fn K mg "_law_b_heaps" vX ["book", "deal"] f fd) (B:Bl mg):FnOk P w K mg base CX0 1 f fd ["book", "deal"] (aBn K):=by
 refine G.fn.ok wE (λvs H Q E h=>?_) (λcdv A outer s H vs Q E hr h=>?_)
 ·obtain ⟨x,y,n,ws,hs,rfl,_⟩:=h
  rfl
 ·obtain ⟨x,y,n,ws,hs,rfl,g,k⟩:=h
  refine ⟨_,aE (aS (i:=2) wE.nd rfl (Or.inl rfl) (bH aGl (eP (aA aI aC)) (aZ bY (pv 0) aI (λ_ _=>rfl))))
   (aE (eF PassesOwn.never rfl (gB (pv 1)) (aK (i:=3) wE.nd rfl (Or.inl rfl))
    (aJ (iA (bH cV (aZ cG (pv 2) (pv 3) (λ_ _=>rfl)) aI) (qR (pv 2) (pv 3) lB))))
   (aJ (aX (pv 2)))),?_⟩
  obtain ⟨hl,hn1,hn6⟩:=g.len
  obtain ⟨a,b,ys,rfl,ha,hb2,hys⟩:=cY g.1
  obtain ⟨c,rfl,hc⟩:=aP.mp g.2.2.1
  refine ⟨sz1 _,λz hz=>⟨_,rfl,a,_,0,.int n,rfl,rfl,(aD.new hz).seqT ha,rfl,z,n,_,rfl,rfl,aB,by omega,by omega,cZ (by simp; omega),λfl hfl=>?_⟩⟩
  have s1:=aD.new (o:=.lst [V.int 0]) hz
  generalize hH1:upd H z (.lst [V.int 0])=H1 at s1 hfl ⊢
  have hfl0:H fl=none:=s1.free hfl
  have hcfl:∀ u,SqT K (upd H1 fl u) c (hs.map V.int):=λu=>(aD.new hfl).seqT (s1.seqT hc)
  refine ⟨_,rfl,c,rfl,⟨_,hcfl _⟩,lU (K:=K) (a:=c) (xs:=hs.map V.int) (λi σ H3=>∃ v,σ = [some (.ref a),some (.ref c),some (.ref fl),v]/\H3=upd H1 fl (.lst ((aF n (hs.take i)).map V.int)))
   ⟨none,rfl,by rw [aAu]; rfl⟩ (λi σ H3 _ ⟨_,_,e⟩=>by rw [e]; exact hcfl _) ?_ ?_⟩
  ·rintro i x σ H3 hx ⟨v,rfl,rfl⟩
   rw [Qe] at hx
   obtain ⟨h,hh,rfl⟩:∃ h,hs[i]?=some h/\V.int h=x:=by
    cases q:hs[i]? with
    | none=>rw [q] at hx; cases hx
    | some h=>rw [q] at hx; exact ⟨h,rfl,Option.some.inj hx⟩
   obtain ⟨b0,b1⟩:=g.hand hh
   have hlt:h.toNat < n.toNat:=by omega
   have hcast:((h.toNat:Nat):Int)=h:=by omega
   have hat:atI ((aF n (hs.take i)).map V.int) h=some (.int (((hs.take i).count h:Nat):Int)):=by
    have h1:((aF n (hs.take i)).map V.int)[h.toNat]?=some (.int (((hs.take i).count h:Nat):Int)):=by rw [Qe,gN hlt,hcast]; rfl
    have h2:=cF h1
    rwa [hcast] at h2
   have hix:ixN ((aF n (hs.take i)).map V.int).length h=some h.toNat:=by
    rw [Qb,eA]
    unfold ixN
    rw [if_pos b0,if_pos (by omega)]
   refine ⟨_,rfl,_,rfl,fl,_,h,_,rfl,rfl,SqL.of aB,hat,_,_,rfl,rfl,_,rfl,_,rfl,fl,_,h,h.toNat,rfl,rfl,aB,hix,?_⟩
   refine ⟨_,rfl,?_⟩
   rw [aAO,yO b0 b1,Jd,hh]
   rfl
  ·rintro σ H3 ⟨v,rfl,rfl⟩
   refine ⟨_,rfl,k fl _ (s1.trans (aD.new hfl)) hfl0 ?_⟩
   rw [aB,Qb,Jf]
def gG (ws:List (List Int)) (hs:List Int):List Int->Bool
 | [k,g,t]=>decide (0<=k) && (decide (k < hs.length) && (hs[k.toNat]?==some g && (!decide (t=g) && decide (t∈ws.getD k.toNat []))))
 | _=>false
def kM (st:List Int):Int:=st.getD 1 0
def rY (st:List Int):Int:=st.getD 2 0
def bT:List (List Int)->List Int
 | []=>[]
 | s::r=>kM s::(s::r).map rY
def qN (L:List (List Int)):Bool:=(L.zip (bT L)).all λp=>kM p.1==p.2
def rZ (ws:List (List Int)) (hs:List Int) (L:List (List Int)):Bool:=!L.isEmpty && (L.all (gG ws hs) && (qN L && decide ((bT L).Nodup)))
theorem uG {st:List Int} (h:gG ws hs st=true):∃ k g t,st = [k,g,t]:=by
 match st,h with
 | [k,g,t],_=>exact ⟨k,g,t,rfl⟩
theorem aCt {st:List Int} (h:st.length≠3):gG ws hs st=false:=by
 match st,h with
 | [],_=>rfl
 | [_],_=>rfl
 | [_,_],_=>rfl
 | [_,_,_],h=>exact absurd rfl h
 | _::_::_::_::_,_=>rfl
theorem aHV {st:List Int} (h:st.length=3):∃ k g t,st = [k,g,t]:=by
 match st,h with
 | [k,g,t],_=>exact ⟨k,g,t,rfl⟩
theorem kN (h:aT K H (ws.map bM) ys) {i:Nat} (e:ws[i]?=some l):∃ c,ys[i]?=some (.ref c)/\SqT K H c (l.map V.int):=by
 have hl:=aN h
 rw [Qb] at hl
 have hi:i < ys.length:=by rw [hl]; exact (Qd.mp e).1
 obtain ⟨d,e1,e2⟩:=bU h (Qc hi)
 rw [Qe,e] at e1
 obtain rfl:=(Option.some.inj e1).symm
 obtain ⟨c,e3,e4⟩:=aP.mp e2
 exact ⟨c,by rw [Qc hi,e3],e4⟩
theorem aDY {k:Int} {x:Int} (h0:0<=k) (h:l[k.toNat]?=some x):atI (l.map V.int) k=some (.int x):=by
 have h1:(l.map V.int)[k.toNat]?=some (.int x):=by rw [Qe,h]; rfl
 have h2:=cF h1
 rwa [Zt h0] at h2
theorem aGC {l:List V} {k:Int} (h0:0<=k) (h:l[k.toNat]?=some x):atI l k=some x:=by
 have h2:=cF h
 rwa [Zt h0] at h2
def aDZ (K:Rc):Sp:=λvs H Q _=>∃ x y b n ws hs l,vs = [x,y,.ref b]/\eR K H x y n ws hs/\SqT K H b (l.map V.int)/\l.length<=1000/\∀ H',aD H H'->Q (.bl (gG ws hs l)) H'
theorem wF:FnScope ["book", "deal", "step", "work", "giver", "taker"] ["book", "deal", "step"] (aG uA):=⟨rfl,rfl,rfl,by decide +kernel,rfl,by decide +kernel,by decide +kernel⟩
theorem aD0 {k g t:Int} {h:Int} (k0:0<=k) (k1:k < hs.length) (eh:hs[k.toNat]?=some h) (el:ws[k.toNat]?=some l):gG ws hs [k,g,t]=(decide (V.int h=V.int g) && (!decide (V.int t=V.int g) && l.any (·==t))):=by
 show (decide (0<=k) && (decide (k < hs.length) && (hs[k.toNat]?==some g && (!decide (t=g) && decide (t∈ws.getD k.toNat [])))))=_
 rw [decide_eq_true k0,decide_eq_true k1,eh]
 have e1:ws.getD k.toNat []=l:=by rw [Qu,el]; rfl
 rw [e1]
 have e2:(some h==some g)=decide (V.int h=V.int g):=by
  by_cases z:h=g
  ·subst z; simp
  ·rw [decide_eq_false (λq=>z (V.int.inj q))]; simpa using z
 have e3:decide (t=g)=decide (V.int t=V.int g):=by
  by_cases z:t=g
  ·subst z; simp
  ·rw [decide_eq_false z,decide_eq_false (λq=>z (V.int.inj q))]
 have e4:decide (t∈l)=l.any (·==t):=by
  rw [Za,decide_eq_true_iff,Yc]
  constructor
  ·intro h; exact ⟨t,h,by simp⟩
  ·rintro ⟨y,hy,e⟩; have:y=t:=by simpa using e
   rw [<- this]; exact hy
 rw [e2,e3,e4]
 rfl
theorem aFn (G:Fn K mg "is_step" uA ["book", "deal", "step"] f fd) (B:Bl mg) (R:Pr K mg fW fH fK fB fNB fD fND fL dW dH dK dB dNB dD dND dL):FnOk P w K mg base CX0 2 f fd ["book", "deal", "step"] (aDZ K):=by
 have OW:FnOk P w K mg base CX0 1 fW dW ["thing"] (nV K):=nW R.W B
 refine G.fn.ok wF (λvs H Q E h=>?_) (λcdv A outer s H vs Q E hr h=>?_)
 ·obtain ⟨x,y,b,n,ws,hs,l,rfl,_⟩:=h
  rfl
 ·obtain ⟨x,y,b,n,ws,hs,l,rfl,g,hb,hl,k⟩:=h
  have r1:Room 1 _:=hr
  refine ⟨_,(aE (cJ (PW.pt (jB (eO (eC (aM cW rfl B.isinstance hJ (aA (pv 2) (aA (dQ (v:=.ty "tuple") rfl B.tuple cM rfl) aC))))) (gL (bE pT (aM aY rfl B.len eV (aA (pv 2) aC)) aI (bD _)))))
   (aJ (aX iE))
   bI)
  (aE (cJ (eO (eC (aM (gY rfl) rfl B.all pY (aA (cB (own:=["part"]) (fr:=[]) (frn:=[]) (bG (aG uA) ["book", "deal", "step", "work", "giver", "taker"] rfl rfl (by decide +kernel)) rfl (gB (pv 2))
    (λ_ _ _ _=>(aK (i:=0) (show (["part"]:List Str).Nodup by decide +kernel) rfl (Or.inl rfl))) (λ_ _ _ _=>dO)
    (λ_ _ _ _=>(bF R.W OW r1 rfl (aA (pv 0) aC)))) aC))))
   (aJ (aX iE))
   bI)
  (aE (iA (pv 2) (fM rfl (aU (aK (i:=3) wF.nd rfl (Or.inl rfl)) (aU (aK (i:=4) wF.nd rfl (Or.inl rfl)) (aU (aK (i:=5) wF.nd rfl (Or.inl rfl)) cP)))))
  (aE (cJ (eO (aCQ qT wS aI (pv 3) (aM aY rfl B.len eV (aA (pv 1) aC))))
   (aJ (aX iE))
   bI)
  (aJ (aX (kF (fI gC (aZ bY (pv 1) (pv 3) (λ_ _=>rfl)) (pv 4) (bD _)) (kF (fI pT (pv 5) (pv 4) (bD _)) (mT (fI oT (pv 5) (aZ bY (aZ bY (pv 0) aI (λ_ _=>rfl)) (pv 3) (λ_ _=>rfl)) (by with_unfolding_all rfl))))))))))),?_⟩
  refine ⟨_,rfl,.ref b,.tup,rfl,.inr (.inl ⟨rfl,_,hb⟩),true,rfl,?_⟩
  refine gX ?_
  refine ⟨_,rfl,b,_,rfl,.inr hb,rfl,_,rfl,?_⟩
  refine cU (λc=>?_) (λc=>?_)
  ·have hne:l.length≠3:=λz=>by rw [Qb,z] at c; simp at c
   rw [aCt hne] at k
   exact k H (aD.refl H)
  have h3:l.length=3:=by
   have:V.int ((l.map V.int).length:Nat)=V.int 3:=by simpa using c
   have:=V.int.inj this
   rw [Qb] at this
   omega
  obtain ⟨wk,gv,tk,rfl⟩:=aHV h3
  refine ⟨_,rfl,b,rfl,⟨_,hb⟩,jT (K:=K) (a:=b) (xs:=[V.int wk,V.int gv,V.int tk]) (λσ=>σ.length=1) (λi ys H'=>ys=(List.replicate i true).map V.bl/\aD H H') (cZ (show 3<=1000 by decide)) rfl ⟨rfl,aD.refl H⟩ (λi ys H' p=>by rw [p.1]; simp) (λi ys H' p=>p.2.seqT hb) (λi ys σ x H' hx hσ p hz=>?_) (λys H' p=>?_)⟩
  ·obtain ⟨v,rfl⟩:∃ v,σ = [v]:=by match σ,hσ with | [v],_=>exact ⟨v,rfl⟩
   obtain ⟨q1,q2⟩:=p
   obtain ⟨m,rfl⟩:∃ m,x=.int m:=by
    have hm:=Qi hx
    simp only [Qn,Qs,or_false] at hm
    rcases hm with rfl | rfl | rfl
    ·exact ⟨_,rfl⟩
    ·exact ⟨_,rfl⟩
    ·exact ⟨_,rfl⟩
   refine cI ?_
   refine ⟨_,rfl,.int m,.int m,rfl,cK.mpr rfl,hz,rfl,?_,q2⟩
   rw [q1,Qaa,Qp]
   rfl
  ·obtain ⟨rfl,s1⟩:=p
   intro p hp
   have s2:=aD.new (o:=.lst ((List.replicate [V.int wk,V.int gv,V.int tk].length true).map V.bl)) hp
   refine ⟨p,List.replicate 3 true,rfl,SqL.of aB,_,rfl,?_⟩
   refine gX ?_
   have s3:=s1.trans s2
   generalize upd H' p (.lst ((List.replicate [V.int wk,V.int gv,V.int tk].length true).map V.bl))=H2 at s2 s3 ⊢
   refine ⟨_,rfl,b,_,rfl,s3.seqT hb,rfl,_,_,rfl,_,_,rfl,_,_,rfl,rfl,?_⟩
   have g3:=g.same s3
   obtain ⟨hdl,hdg⟩:=aR g.2.2.2
   obtain ⟨ba,bb,ys2,rfl,ha,hb2,hys⟩:=cY g3.1
   obtain ⟨c,rfl,hc⟩:=aP.mp g3.2.2.1
   refine ⟨_,rfl,_,_,rfl,rfl,_,rfl,?_⟩
   by_cases k0:0<=wk
   ·rw [decide_eq_true k0]
    refine fZ ?_
    refine ⟨_,rfl,c,_,rfl,.inr hc,_,_,rfl,rfl,_,rfl,?_⟩
    rw [Qb]
    by_cases k1:wk < hs.length
    ·rw [decide_eq_true k1]
     refine gX ?_
     have hlt:wk.toNat < hs.length:=by omega
     have eh:=Qc hlt
     have el:=Qc (l:=ws) (i:=wk.toNat) (by omega)
     obtain ⟨cw,e1,e2⟩:=kN hys el
     have sv:=aD0 (g:=gv) (t:=tk) k0 k1 eh el
     have kk:=k H2 s3
     rw [sv] at kk
     refine ⟨_,rfl,_,rfl,c,_,_,_,rfl,rfl,hc,aDY k0 eh,_,rfl,rfl,_,rfl,?_⟩
     refine cU (λc1=>?_) (λc1=>?_)
     ·rw [c1] at kk
      refine ⟨_,rfl,_,rfl,rfl,_,rfl,?_⟩
      refine cU (λc2=>?_) (λc2=>?_)
      ·rw [c2] at kk
       refine ⟨_,rfl,_,rfl,ba,_,1,.ref bb,rfl,rfl,ha,rfl,_,rfl,bb,_,_,_,rfl,rfl,hb2,aGC k0 e1,cw,_,rfl,.inr e2,rfl,uD _,?_⟩
       rw [show inV (V.int tk) (ws[wk.toNat].map V.int)=_ from aBj tk _]
       exact kk
      ·rw [Yd] at c2
       rw [c2] at kk
       exact kk
     ·rw [Yd] at c1
      rw [c1] at kk
      exact kk
    ·rw [decide_eq_false k1]
     refine fZ ?_
     have e:gG ws hs [wk,gv,tk]=false:=by
      show (decide (0<=wk) && (decide (wk < hs.length) && _))=false
      rw [decide_eq_false k1]; simp
     rw [e] at k
     exact k H2 s3
   ·rw [decide_eq_false k0]
    refine gX ?_
    refine ⟨_,rfl,?_⟩
    refine fZ ?_
    have e:gG ws hs [wk,gv,tk]=false:=by
     show (decide (0<=wk) && _)=false
     rw [decide_eq_false k0]; rfl
    rw [e] at k
    exact k H2 s3
theorem aAv {L:List (List Int)} (h:L≠[]):(bT L).length=L.length+1:=by
 cases L with
 | nil=>exact absurd rfl h
 | cons s r=>simp [bT]
def aFP (K:Rc):Sp:=λvs H Q _=>∃ x y p xs n ws hs L,vs = [x,y,.ref p]/\eR K H x y n ws hs/\SqL K H p xs/\aT K H (L.map bM) xs/\L.length<=30/\(∀ l∈L,l.length<=1000)/\∀ H',aD H H'->Q (.bl (rZ ws hs L)) H'
theorem aD1:FnScope ["book", "deal", "some", "passed", "follow"] ["book", "deal", "some"] (aG aAm):=⟨rfl,rfl,rfl,by decide +kernel,rfl,by decide +kernel,by decide +kernel⟩
theorem aGD {dS:FuncData} (G:Fn K mg "is_way" aAm ["book", "deal", "some"] f fd) (B:Bl mg) (R:Pr K mg fW fH fK fB fNB fD fND fL dW dH dK dB dNB dD dND dL) (GS:Fn K mg "is_step" uA ["book", "deal", "step"] fS dS):FnOk P w K mg base CX0 7 f fd ["book", "deal", "some"] (aFP K):=by
 have OS:FnOk P w K mg base CX0 2 fS dS ["book", "deal", "step"] (aDZ K):=aFn GS B R
 have OND:FnOk P w K mg base CX0 6 fND dND ["book", "deal"] (wA K):=yJ B R
 refine G.fn.ok aD1 (λvs H Q E h=>?_) (λcdv A outer s H vs Q E hr h=>?_)
 ·obtain ⟨x,y,p,xs,n,ws,hs,L,rfl,_⟩:=h
  rfl
 ·obtain ⟨x,y,p,xs,n,ws,hs,L,rfl,g,hp,hd,hL,hl1000,k⟩:=h
  have r2:Room 2 _:=hr.mono (by decide)
  have r6:Room 6 _:=hr
  refine ⟨_,(aE (gA (bF R.ND OND r6 rfl (aA (pv 0) (aA (pv 1) aC))))
  (aE (cJ (PW.pt (jB (eO (eC (aM jI rfl B.isinstance hJ (aA (pv 2) (aA (dQ (v:=.ty "list") rfl B.list vS rfl) aC))))) (gL (bE gC (aM aY rfl B.len eV (aA (pv 2) aC)) aI (bD _)))))
   (aJ (aX iE))
   bI)
  (aE (cJ (eO (eC (aM (gY rfl) rfl B.all pY (aA (cB (own:=["step"]) (fr:=[0,1]) (frn:=["book", "deal"]) (bG (aG aAm) ["book", "deal", "some", "passed", "follow"] rfl rfl (by decide +kernel)) rfl (eZ (pv 2))
    (λ_ _ _ _=>(aK (i:=0) (show (["step", "book", "deal"]:List Str).Nodup by decide +kernel) rfl (Or.inl rfl))) (λ_ _ _ _=>dO)
    (λ_ _ _ _=>(bF GS OS r2 rfl (aA (pv 1) (aA (pv 2) (aA (pv 0) aC)))))) aC))))
   (aJ (aX iE))
   bI)
  (aE (aS (i:=3) aD1.nd rfl (Or.inl rfl) (bH aCY (eP (aA (aZ bY (aZ cG (pv 2) aI (λ_ _=>rfl)) aI (λ_ _=>rfl)) aC)) (cB (own:=["step"]) (fr:=[]) (frn:=[]) (bG (aG aAm) ["book", "deal", "some", "passed", "follow"] rfl rfl (by decide +kernel)) rfl (eZ (pv 2))
    (λ_ _ _ _=>(aK (i:=0) (show (["step"]:List Str).Nodup by decide +kernel) rfl (Or.inl rfl))) (λ_ _ _ _=>dO)
    (λ_ _ _ _=>(aZ (cN (K:=K) rfl) (pv 0) aI (λ_ _=>rfl))))))
  (aE (aS (i:=4) aD1.nd rfl (Or.inl rfl) (aM (gY rfl) rfl B.all pY (aA (cB (own:=["step", "hand"]) (fr:=[]) (frn:=[]) (bG (aG aAm) ["book", "deal", "some", "passed", "follow"] rfl rfl (by decide +kernel)) rfl (zX .l .l rfl B.zip (aA (pv 2) (aA (pv 3) aC)))
    (λ_ _ _ _=>(nX (K:=K) (n:=2) rfl rfl (aU (aK (i:=0) (show (["step", "hand"]:List Str).Nodup by decide +kernel) rfl (Or.inl rfl)) (aU (aK (i:=1) (show (["step", "hand"]:List Str).Nodup by decide +kernel) rfl (Or.inl rfl)) cP)))) (λ_ _ _ _=>dO)
    (λ_ _ _ _=>(fI gC (aZ (cN (K:=K) rfl) (pv 0) aI (λ_ _=>rfl)) (pv 1) (bD _)))) aC)))
  (aJ (aX (kF (pv 4) (mT (fI gC (aM sX rfl B.len eV (aA (bR (aB2 (K:=K) rfl rfl) rfl B.set aBc (aA (pv 3) aC)) aC)) (aM aY rfl B.len eV (aA (pv 3) aC)) (bD _))))))))))),?_⟩
  refine ⟨_,rfl,_,rfl,x,y,n,ws,hs,rfl,g,λH1 s1=>?_⟩
  have hxl:=aN hd
  rw [Qb] at hxl
  have hp1:=s1.seqL hp
  have hd1:=s1.denAll _ _ hd
  refine ⟨_,rfl,.ref p,.lst,rfl,.inl ⟨rfl,_,hp1⟩,true,rfl,?_⟩
  refine gX ?_
  refine ⟨_,rfl,p,_,rfl,.inl hp1,rfl,_,rfl,?_⟩
  refine cU (λc=>?_) (λc=>?_)
  ·have e0:L = []:=by
    have:V.int (xs.length:Nat)=V.int 0:=by simpa using c
    have:=V.int.inj this
    exact Jp.mp (by omega)
   subst e0
   exact k H1 s1
  have hne:L≠[]:=λz=>by
   subst z
   have:xs.length=0:=by simpa using hxl
   rw [this] at c
   simp at c
  have g1:=g.same s1
  refine ⟨_,rfl,p,rfl,⟨_,hp1⟩,xJ (K:=K) (a:=p) (xs:=xs) (vs:=(L.map (gG ws hs)).map V.bl) (λσ=>∃ v,σ = [v,some x,some y]) (by omega) (by simp [hxl]) hp1 ⟨none,rfl⟩ ?_ ?_⟩
  ·rintro i u v σ H2 hu hv ⟨v0,rfl⟩ s2 Q' k'
   have hlt:i < L.length:=by have:=(Qd.mp hu).1; omega
   have el:L[i]?=some L[i]:=Qc hlt
   obtain ⟨c1,e1,e2⟩:=kN (s2.denAll _ _ hd1) el
   rw [hu] at e1
   obtain rfl:=Option.some.inj e1
   have ev:v=.bl (gG ws hs L[i]):=by
    rw [Qe,Qe,el] at hv
    exact (Option.some.inj hv).symm
   subst ev
   refine ⟨_,rfl,_,rfl,_,rfl,x,y,c1,n,ws,hs,L[i],rfl,g1.same s2,e2,hl1000 _ (Xb hlt),λH3 s3=>?_⟩
   exact k' _ H3 ⟨_,rfl⟩ s3
  ·intro H2 s2 q hq
   refine ⟨q,L.map (gG ws hs),rfl,SqL.of aB,_,rfl,?_⟩
   have s3:=s2.trans (aD.new (o:=.lst ((L.map (gG ws hs)).map V.bl)) hq)
   generalize upd H2 q (.lst ((L.map (gG ws hs)).map V.bl))=H3 at s3 ⊢
   have eall:(L.map (gG ws hs)).all id=L.all (gG ws hs):=by rw [Ye]; rfl
   rw [eall]
   by_cases ha:L.all (gG ws hs)=true
   ·rw [ha]
    refine gX ?_
    have hok:∀ st∈L,gG ws hs st=true:=λst h=>Jt.mp ha st h
    have hp3:∀ {H':Hp},aD H3 H'->SqL K H' p xs:=λz=>z.seqL (s3.seqL hp1)
    have nth:∀ {H':Hp} {i:Nat} {u:V},aD H3 H'->xs[i]?=some u->∃ (c:Addr) (st:List Int) (kk gg tt:Int),u=.ref c/\L[i]?=some st/\st = [kk,gg,tt]/\SqT K H' c [.int kk,.int gg,.int tt]:=λ{H' i u} z hu=>by
     have hlt:i < L.length:=by have:=(Qd.mp hu).1; omega
     have el:L[i]?=some L[i]:=Qc hlt
     obtain ⟨c1,e1,e2⟩:=kN (z.denAll _ _ (s3.denAll _ _ hd1)) el
     rw [hu] at e1
     obtain ⟨kk,gg,tt,e3⟩:=uG (hok _ (Xb hlt))
     rw [e3] at e2
     exact ⟨c1,L[i],kk,gg,tt,Option.some.inj e1,el,e3,e2⟩
    have h0:0 < xs.length:=by
     have:=Xl.mpr hne
     omega
    obtain ⟨c0,st0,k0,g0,t0,e0,el0,es0,q0⟩:=nth (aD.refl H3) (Qc h0)
    refine ⟨_,rfl,p,_,0,.ref c0,rfl,rfl,hp3 (aD.refl H3),cF (by rw [Qc h0,e0]),c0,_,1,.int g0,rfl,rfl,q0,rfl,sz1 _,λl1 hl1=>?_⟩
    have s4:=aD.new (o:=.lst [.int g0]) hl1
    have a4:upd H3 l1 (.lst [.int g0]) l1=some (.lst [.int g0]):=aB
    generalize upd H3 l1 (.lst [.int g0])=H4 at s4 a4 ⊢
    refine ⟨_,rfl,p,rfl,⟨_,hp3 s4⟩,xJ (K:=K) (a:=p) (xs:=xs) (vs:=(L.map rY).map V.int) (λσ=>∃ v,σ = [v]) (by omega) (by simp [hxl]) (hp3 s4) ⟨none,rfl⟩ ?_ ?_⟩
    ·rintro i u v σ H5 hu hv ⟨v0,rfl⟩ s5 Q' k'
     obtain ⟨c1,st,kk,gg,tt,rfl,el,rfl,q1⟩:=nth (s4.trans s5) hu
     have ev:v=.int tt:=by
      rw [Qe,Qe,el] at hv
      exact (Option.some.inj hv).symm
     subst ev
     exact ⟨_,rfl,c1,_,2,.int tt,rfl,rfl,q1,rfl,k' _ H5 ⟨_,rfl⟩ (aD.refl H5)⟩
    ·intro H5 s5 l2 hl2
     have s6:=aD.new (o:=.lst ((L.map rY).map V.int)) hl2
     have a6:=s6 _ _ (s5 _ _ a4)
     have b6:upd H5 l2 (.lst ((L.map rY).map V.int)) l2=some (.lst ((L.map rY).map V.int)):=aB
     generalize upd H5 l2 (.lst ((L.map rY).map V.int))=H6 at s6 a6 b6 ⊢
     refine ⟨l1,l2,_,_,rfl,rfl,a6,b6,aDf (by simp; omega),λl3 hl3=>?_⟩
     have epass : [V.int g0]++(L.map rY).map V.int=(bT L).map V.int:=by
      cases L with
      | nil=>exact absurd rfl hne
      | cons s r =>
       have:s=st0:=Option.some.inj el0
       subst this
       rw [es0]
       rfl
     rw [epass]
     have s7:=aD.new (o:=.lst ((bT L).map V.int)) hl3
     have b7:upd H6 l3 (.lst ((bT L).map V.int)) l3=some (.lst ((bT L).map V.int)):=aB
     generalize upd H6 l3 (.lst ((bT L).map V.int))=H7 at s7 b7 ⊢
     have s37:=((s4.trans s5).trans s6).trans s7
     have pl:=aAv hne
     refine ⟨_,rfl,_,rfl,p,l3,xs,_,rfl,hp3 s37,SqL.of b7,aDg (K:=K) (k1:=.l) (k2:=.l) (a:=p) (b:=l3) (xs:=xs) (zs:=(bT L).map V.int) (vs:=((L.zip (bT L)).map λq=>kM q.1==q.2).map V.bl) (λσ=>∃ u v,σ = [u,v]) (by omega) (by simp; omega) (by simp [pl]; omega)
      (λH' z=>⟨hp3 (s37.trans z),SqL.of (z _ _ b7)⟩) ⟨none,none,rfl⟩ ?_ ?_⟩
     ·rintro i u z v q σ H8 hu hz hv hq ⟨u0,v0,rfl⟩ s8 Q' k'
      have s9:=aD.new (o:=.tup [u,z]) hq
      obtain ⟨c1,st,kk,gg,tt,rfl,el,rfl,q1⟩:=nth ((s37.trans s8).trans s9) hu
      obtain ⟨zz,hzz,rfl⟩:∃ zz,(bT L)[i]?=some zz/\V.int zz=z:=by
       rw [Qe] at hz
       cases e:(bT L)[i]? with
       | none=>rw [e] at hz; cases hz
       | some zz=>rw [e] at hz; exact ⟨zz,rfl,Option.some.inj hz⟩
      have ev:v=.bl (gg==zz):=by
       have e1:(L.zip (bT L))[i]?=some ([kk,gg,tt],zz):=by rw [Jl]; exact ⟨el,hzz⟩
       rw [Qe,Qe,e1] at hv
       exact (Option.some.inj hv).symm
      subst ev
      refine ⟨q,_,rfl,SqT.of aB,rfl,_,_,rfl,_,_,rfl,rfl,?_⟩
      refine ⟨_,rfl,c1,_,1,.int gg,rfl,rfl,q1,rfl,_,rfl,rfl,?_⟩
      have eb:decide (V.int gg=V.int zz)=(gg==zz):=by
       by_cases e:gg=zz
       ·subst e; simp
       ·rw [decide_eq_false (λq=>e (V.int.inj q))]; exact (beq_eq_false_iff_ne.mpr e).symm
      rw [eb]
      exact k' _ _ ⟨_,_,rfl⟩ s9
     ·intro H8 s8 l4 hl4
      refine ⟨l4,(L.zip (bT L)).map (λq=>kM q.1==q.2),rfl,SqL.of aB,?_⟩
      have s9:=s8.trans (aD.new (o:=.lst (((L.zip (bT L)).map λq=>kM q.1==q.2).map V.bl)) hl4)
      generalize upd H8 l4 (.lst (((L.zip (bT L)).map λq=>kM q.1==q.2).map V.bl))=H9 at s9 ⊢
      have ef:((L.zip (bT L)).map λq=>kM q.1==q.2).all id=qN L:=by rw [Ye]; rfl
      rw [ef]
      have kk:=λH' (z:aD H9 H')=>k H' ((s1.trans (s3.trans s37)).trans (s9.trans z))
      have ew:rZ ws hs L=(qN L && decide ((bT L).Nodup)):=by
       unfold rZ
       rw [ha]
       cases L with
       | nil=>exact absurd rfl hne
       | cons _ _=>rfl
      rw [ew] at kk
      refine ⟨_,rfl,_,rfl,?_⟩
      refine cU (λc1=>?_) (λc1=>?_)
      ·rw [c1] at kk
       refine ⟨_,rfl,l3,bT L,rfl,SqL.of (s9 _ _ b7),by omega,λl5 hl5=>?_⟩
       have s10:=aD.new (o:=.set (λk=>decide (k∈bT L)) (kZ (bT L))) hl5
       refine ⟨l5,_,_,rfl,aB,_,rfl,l3,_,rfl,.inl (SqL.of (s10 _ _ (s9 _ _ b7))),rfl,?_⟩
       have e2:decide (V.int (kZ (bT L):Nat)=V.int ((bT L).map V.int).length)=decide ((bT L).Nodup):=by
        rw [Za,decide_eq_true_iff,decide_eq_true_iff,<- zY,Qb]
        constructor
        ·intro z; have:=V.int.inj z; omega
        ·intro z; rw [z]
       rw [e2]
       exact kk _ s10
      ·rw [Yd] at c1
       rw [c1] at kk
       exact kk H9 (aD.refl _)
   ·rw [Yd] at ha
    rw [ha]
    refine fZ ?_
    have e:rZ ws hs L=false:=by unfold rZ; rw [ha]; simp
    rw [e] at k
    exact k H3 (s1.trans s3)
end Ab
namespace Ab
def jA (ws:List (List Int)) (hs:List Int) (g:Int) (w:Nat) (t:Int):Prop:=hs[w]?=some g/\∃ l,ws[w]?=some l/\t∈l/\t≠g
def RL (ws:List (List Int)) (hs:List Int):Nat->Int->Int->Prop
 | 0,h,x=>h=x
 | k+1,h,x=>h=x∨∃ w o,jA ws hs h w o/\RL ws hs k o x
def eT (ws:List (List Int)) (hs:List Int):Int->List (Nat×Int×Int)->Int->Prop
 | h,[],x=>h=x
 | h,s::r,x=>s.2.1=h/\jA ws hs h s.1 s.2.2/\eT ws hs s.2.2 r x
theorem RL.refl:∀ (k:Nat) (h:Int),RL ws hs k h h
 | 0,_=>rfl
 | _+1,_=>.inl rfl
theorem RL.succ:∀ {k:Nat} {h x:Int},RL ws hs k h x->RL ws hs (k+1) h x
 | 0,_,_,e=>.inl e
 | k+1,_,_,.inl e=>.inl e
 | k+1,_,_,.inr ⟨w,o,e,r⟩=>.inr ⟨w,o,e,RL.succ r⟩
theorem RL.mono {k m:Nat} {h x:Int} (r:RL ws hs k h x) (le:k<=m):RL ws hs m h x:=by
 induction le with
 | refl=>exact r
 | step _ ih=>exact ih.succ
theorem RL.snoc:∀ {k:Nat} {h g t:Int} {w:Nat},RL ws hs k h g->jA ws hs g w t->RL ws hs (k+1) h t
 | 0,_,_,_,w,e,d=>by subst e; exact .inr ⟨w,_,d,rfl⟩
 | k+1,_,_,_,w,.inl e,d=>by subst e; exact .inr ⟨w,_,d,RL.refl _ _⟩
 | k+1,_,_,_,_,.inr ⟨w',o,e,r⟩,d=>.inr ⟨w',o,e,RL.snoc r d⟩
theorem RL.closed {S:Int->Prop} (hc:∀ g w t,S g->jA ws hs g w t->S t):∀ {k:Nat} {h x:Int},S h->RL ws hs k h x->S x
 | 0,_,_,s,e=>e ▸ s
 | _+1,_,_,s,.inl e=>e ▸ s
 | _+1,_,_,s,.inr ⟨w,o,e,r⟩=>RL.closed hc (hc _ w o s e) r
theorem eT.snoc:∀ {h g:Int} {r:List (Nat×Int×Int)} {w:Nat} {t:Int},eT ws hs h r g->jA ws hs g w t->eT ws hs h (r++[(w,g,t)]) t
 | _,_,[],_,_,e,d=>by cases e; exact ⟨rfl,d,rfl⟩
 | _,_,_::_,_,_,⟨e1,e2,e3⟩,d=>⟨e1,e2,eT.snoc e3 d⟩
def jZ (ws:List (List Int)) (hs:List Int) (n:Nat) (h v:Int):Prop:=(∃ x,RL ws hs n h x/\v=((hs.count x:Nat):Int))/\∀ k x,RL ws hs k h x->v<=((hs.count x:Nat):Int)
theorem jZ.le {n:Nat} {h v:Int} (m:jZ ws hs n h v):v<=((hs.count h:Nat):Int):=m.2 0 h rfl
theorem jZ.edge {n:Nat} {h o v u:Int} {w:Nat} (m:jZ ws hs n h v) (m2:jZ ws hs n o u) (e:jA ws hs h w o):v<=u:=by
 obtain ⟨x,r,rfl⟩:=m2.1
 exact m.2 (n+1) x (show RL ws hs (n+1) h x from .inr ⟨w,o,e,r⟩)
theorem jZ.uniq {n m:Nat} {h v u:Int} (a:jZ ws hs n h v) (b:jZ ws hs m h u):v=u:=by
 obtain ⟨x,r,rfl⟩:=a.1
 obtain ⟨y,s,rfl⟩:=b.1
 have h1:=a.2 _ y s
 have h2:=b.2 _ x r
 omega
def eJ (n:Int) (ws:List (List Int)) (hs lv:List Int):Prop:=lv.length=n.toNat/\∀ (h:Nat) (v:Int),lv[h]?=some v->jZ ws hs n.toNat h v/\((hs.count (h:Int):Nat):Int) - v < 2
def qC (n:Int) (ws:List (List Int)) (hs:List Int) (ss:List (Nat×Int×Int)):Prop :=
 ∃ h x,ss≠[]/\eT ws hs h ss x/\(h::ss.map (·.2.2)).Nodup/\0<=h/\h < n/\RL ws hs n.toNat h x/\2<=((hs.count h:Nat):Int) - ((hs.count x:Nat):Int)
theorem lZ:∀ (n:Nat) (l:List Int),l.Nodup->(∀ x∈l,0<=x/\x < (n:Int))->l.length<=n
 | 0,[],_,_=>Qh _
 | 0,x::_,_,h=>by have:=h x (.head _); omega
 | n+1,l,hn,h=>by
  by_cases hm:(n:Int)∈l
  ·have h1:=lZ n (l.erase (n:Int)) (hn.erase _) λx hx=>by
    have h2:=(hn.mem_erase_iff).mp hx
    have h3:=h x h2.2
    have:=h2.1
    omega
   rw [Wh hm] at h1
   omega
  ·have h1:=lZ n l hn λx hx=>by
    have h3:=h x hx
    have:x≠(n:Int):=λz=>hm (z ▸ hx)
    omega
   omega
end Ab
namespace L2
open PySem
theorem aD.wr {u:HO} (e:aD H H') (h:H a=none):aD H (upd H' a u):=λb o q=>by
 rw [aH (λz=>by rw [z,h] at q; cases q)]
 exact e b o q
end L2
namespace Ab
open PySem L2
theorem wG {xs:List Int} {i:Nat} (h:(xs.map V.int)[i]?=some v):∃ a,xs[i]?=some a/\v=.int a:=by
 rw [Qe] at h
 cases q:xs[i]? with
 | none=>rw [q] at h; cases h
 | some a=>rw [q] at h; exact ⟨a,rfl,(Option.some.inj h).symm⟩
theorem aGE {n:Nat} {k:Int} (h0:0<=k) (h1:k < n):ixN n k=some k.toNat:=by
 unfold ixN
 rw [if_pos h0,if_pos (by omega)]
def tI (E:Nat->Int->Prop) (r:List (Key×V)):Prop:=(∀ k v,dJ r k=some v->∃ (w:Nat) (t:Int),k=.inl t/\v=.int (w:Nat)/\E w t)/\∀ w t,E w t->(dJ r (.inl t)).isSome=true
theorem tI.nil {E:Nat->Int->Prop} (h:∀ w t,¬ E w t):tI E []:=⟨λk v e=>(by rw [aDi] at e; cases e),λw t e=>(h w t e).elim⟩
theorem tI.put {E:Nat->Int->Prop} {r:List (Key×V)} (h:tI E r) (w:Nat) (t:Int):tI (λw' t'=>E w' t'∨(w'=w/\t'=t)) (jL r (.inl t) (.int (w:Nat))):=by
 refine ⟨λk v e=>?_,λw' t' e=>?_⟩
 ·rw [xN] at e
  by_cases hk:k=Sum.inl t
  ·rw [if_pos hk] at e
   exact ⟨w,t,hk,(Option.some.inj e).symm,.inr ⟨rfl,rfl⟩⟩
  ·rw [if_neg hk] at e
   obtain ⟨w',t',h1,h2,h3⟩:=h.1 k v e
   exact ⟨w',t',h1,h2,.inl h3⟩
 ·rw [xN]
  by_cases hk:(Sum.inl t':Key)=Sum.inl t
  ·rw [if_pos hk]; rfl
  ·rw [if_neg hk]
   rcases e with e | ⟨_,e⟩
   ·exact h.2 w' t' e
   ·exact absurd (by rw [e]) hk
theorem tI.congr {E E':Nat->Int->Prop} {r:List (Key×V)} (h:tI E r) (e:∀ w t,E w t↔E' w t):tI E' r:=⟨λk v q=>let ⟨w,t,a,b,c⟩:=h.1 k v q; ⟨w,t,a,b,(e w t).mp c⟩,λw t q=>h.2 w t ((e w t).mpr q)⟩
structure Rows (H:Hp) (rp:Addr) (qs:List Addr) (rs:List (List (Key×V))):Prop where
 lst:H rp=some (.lst (qs.map V.ref))
 len:qs.length=rs.length
 nd:qs.Nodup
 row:∀ (g:Nat) q r,qs[g]?=some q->rs[g]?=some r->H q=some (.dK r)
theorem Rows.same (h:Rows H rp qs rs) (s:aD H H'):Rows H' rp qs rs:=⟨s _ _ h.lst,h.len,h.nd,λg q r a b=>s _ _ (h.row g q r a b)⟩
theorem Rows.put (h:Rows H rp qs rs) {g:Nat} {q:Addr} {r r':List (Key×V)} (hq:qs[g]?=some q) (hr:rs[g]?=some r):Rows (upd H q (.dK r')) rp qs (rs.set g r'):=by
 have hg:=h.row g q r hq hr
 have nq:rp≠q:=λz=>by have:=h.lst; rw [z,hg] at this; cases this
 refine ⟨by rw [aH nq]; exact h.lst,by rw [Xr]; exact h.len,h.nd,λg2 q2 r2 h1 h2=>?_⟩
 rw [Xz] at h2
 by_cases e:g=g2
 ·subst e
  rw [if_pos rfl] at h2
  rw [hq] at h1
  cases h1
  by_cases hl:g < rs.length
  ·rw [if_pos hl] at h2; cases h2; exact aB
  ·rw [if_neg hl] at h2; cases h2
 ·rw [if_neg e] at h2
  have n2:q2≠q:=λz=>by
   subst z
   have hlt:g < qs.length:=(Qd.mp hq).1
   exact e ((Wi hlt h.nd).mp (hq.trans h1.symm))
  rw [aH n2]
  exact h.row g2 q2 r2 h1 h2
theorem Rows.other {u:HO} (h:Rows H rp qs rs) (hn:H a=none):Rows (upd H a u) rp qs rs:=h.same (aD.new hn)
def aBo (E:Int->Nat->Int->Prop) (rs:List (List (Key×V))) (m:Nat):Prop:=∀ (g:Nat) r,rs[g]?=some r->tI (E g) r/\r.length<=m
def uH (K:Rc):Sp:=λvs H Q _=>∃ x y n ws hs,vs = [x,y]/\eR K H x y n ws hs/\∀ rp H' qs rs,aD H H'->H rp=none->(∀ q∈qs,H q=none)->Rows H' rp qs rs->rs.length=n.toNat->aBo (jA ws hs) rs 100->Q (.ref rp) H'
theorem iR:FnScope ["book", "deal", "rows", "work", "giver", "able", "taker"] ["book", "deal"] (aG lL):=⟨rfl,rfl,rfl,by decide +kernel,rfl,by decide +kernel,by decide +kernel⟩
theorem aAw (G:Fn K mg "handing" lL ["book", "deal"] f fd) (B:Bl mg):FnOk P w K mg base CX0 1 f fd ["book", "deal"] (uH K):=by
 refine G.fn.ok iR (λvs H Q E h=>?_) (λcdv A outer s H vs Q E hr h=>?_)
 ·obtain ⟨x,y,n,ws,hs,rfl,_⟩:=h
  rfl
 ·obtain ⟨x,y,n,ws,hs,rfl,g,k⟩:=h
  refine ⟨_,(aE (kI (i:=2) (own:=["hand"]) (fr:=[]) (frn:=[]) (bG (aG lL) ["book", "deal", "rows", "work", "giver", "able", "taker"] rfl rfl (by decide +kernel)) rfl iR.nd rfl rfl rfl (dP rfl B.range (aA (aZ bY (pv 0) aI (λ_ _=>rfl)) aC))
    (λ_ _ _ _=>(aK (i:=0) (show (["hand"]:List Str).Nodup by decide +kernel) rfl (Or.inl rfl))) (λ_ _ _ _=>dO)
    (λ_ _ _ _=>aDl))
   (aE (eF PassesOwn.never rfl (aAb .t .t rfl B.enumerate rfl B.zip (aA (pv 1) (aA (aZ bY (pv 0) aI (λ_ _=>rfl)) aC))) (fM rfl (aU (aK (i:=3) iR.nd rfl (Or.inl rfl)) (aU (fM rfl (aU (aK (i:=4) iR.nd rfl (Or.inl rfl)) (aU (aK (i:=5) iR.nd rfl (Or.inl rfl)) cP))) cP)))
    (aJ (eF PassesOwn.never rfl (gB (pv 5)) (aK (i:=6) iR.nd rfl (Or.inl rfl))
     (aJ (cJ (bE pT (pv 6) (pv 4) (bD _))
      (aJ (vE (kU hr) (aZ cG (pv 2) (pv 4) (λ_ _=>rfl)) (pv 6) (pv 3) rfl))
      bI)))))
   (aJ (aX (pv 2))))),?_⟩
  obtain ⟨hl12,hn1,hn6⟩:=g.len
  obtain ⟨a,b,ys,rfl,ha,hb2,hys⟩:=cY g.1
  obtain ⟨c0,rfl,hc0⟩:=aP.mp g.2.2.1
  obtain ⟨hdl,hdg⟩:=aR g.2.2.2
  obtain ⟨_,_,hw12,hws⟩:=bB g.2.1
  have hlw:=aN hys
  rw [Qb] at hlw
  refine ⟨_,rfl,a,_,0,.int n,rfl,rfl,ha,rfl,n,rfl,by omega,by omega,dZ (lo:=0) (n:=n.toNat) (λσ=>∃ v,σ = [v]) (λi zs H2=>∃ qs:List Addr,zs=qs.map V.ref/\qs.length=i/\aD H H2/\qs.Nodup/\∀ q∈qs,H q=none/\H2 q=some (.dK [])) ?_ ⟨none,rfl⟩ ⟨[],rfl,rfl,aD.refl H,Ya,λ_ h=>(Qs h).elim⟩ ?_ ?_ ?_⟩
  ·rw [Rf]; omega
  ·rintro i zs H2 ⟨qs,rfl,hq,_⟩
   rw [Qb]; omega
  ·rintro i zs σ H2 hi ⟨v,rfl⟩ ⟨qs,rfl,hq,s2,nd,hqs⟩ hz
   refine cI ?_
   intro p hp
   refine ⟨hz,⟨_,rfl⟩,qs++[p],by rw [Qp]; rfl,by rw [Qq,hq]; rfl,s2.trans (aD.new hp),?_,λq hq'=>?_⟩
   ·rw [Wj]
    refine ⟨nd,by simp,λx hx y hy e=>?_⟩
    rw [Qo.mp hy] at e
    have:=(hqs x hx).2
    rw [e,hp] at this; cases this
   ·rcases Jh.mp hq' with h | h
    ·exact ⟨(hqs q h).1,(aD.new hp) _ _ (hqs q h).2⟩
    ·rw [Qo.mp h]
     exact ⟨s2.free hp,aB⟩
  ·rintro zs H2 ⟨qs,rfl,hq,s2,nd,hqs⟩ rp hrp
   have s3:=s2.trans (aD.new (o:=.lst (qs.map V.ref)) hrp)
   have hrp0:H rp=none:=s2.free hrp
   have R3:Rows (upd H2 rp (.lst (qs.map V.ref))) rp qs (List.replicate n.toNat []):=⟨aB,by rw [Xn]; exact hq,nd,λg q r h1 h2=>by
    have er:r = []:=by
     rw [Xq] at h2
     split at h2
     ·exact (Option.some.inj h2).symm
     ·cases h2
    rw [er]
    exact (aD.new hrp) _ _ (hqs q (Qi h1)).2⟩
   generalize upd H2 rp (.lst (qs.map V.ref))=H3 at s3 R3 ⊢
   have h6:∀ l∈ws,l.length<=6:=λl hl=>by
    obtain ⟨_,w2,w3⟩:=bL (hws l hl)
    have:=eG (by omega) w2 w3
    omega
   refine ⟨_,rfl,_,rfl,a,_,1,.ref b,rfl,rfl,s3.seqT ha,rfl,c0,b,_,_,rfl,s3.seqT hc0,s3.seqT hb2,xW (K:=K) (k1:=.t) (k2:=.t) (a:=c0) (b:=b) (xs:=hs.map V.int) (ys:=ys)
    (λi σ H4=>(∃ v3 v4 v5 v6,σ = [some (.ref a),some (.ref c0),some (.ref rp),v3,v4,v5,v6])/\aD H H4/\∃ rs,Rows H4 rp qs rs/\rs.length=n.toNat/\aBo (λg w t=>w < i/\jA ws hs g w t) rs (6*i))
    (by rw [Qb]; omega) ⟨⟨_,_,_,_,rfl⟩,s3,_,R3,Xn,λg r hr=>?_⟩ (λ_ σ H4 _ ⟨_,s4,_⟩=>⟨s4.seqT hc0,s4.seqT hb2⟩) ?_ ?_⟩
   ·have er:r = []:=by
     rw [Xq] at hr
     split at hr
     ·exact (Option.some.inj hr).symm
     ·cases hr
    rw [er]
    exact ⟨tI.nil λw t h=>by omega,Jr _⟩
   ·rintro i u v p q σ H4 hu hv ⟨⟨v3,v4,v5,v6,rfl⟩,s4,rs,R4,hl4,E4⟩ hp hq hne
    obtain ⟨h,hh,rfl⟩:=wG hu
    obtain ⟨dv,hdv,denv⟩:=bU hys hv
    rw [Qe] at hdv
    obtain ⟨l,hl,rfl⟩:∃ l,ws[i]?=some l/\bM l=dv:=by
     cases q:ws[i]? with
     | none=>rw [q] at hdv; cases hdv
     | some l=>rw [q] at hdv; exact ⟨l,rfl,Option.some.inj hdv⟩
    obtain ⟨aw,rfl,haw⟩:=aP.mp denv
    obtain ⟨hh0,hh1⟩:=g.hand hh
    have hl6:=h6 l (Qi hl)
    have hi12:i < 12:=by
     have:=(Qd.mp hh).1
     omega
    have sp:=aD.new (o:=.tup [.int h,.ref aw]) hp
    have hq1:upd H4 p (.tup [.int h,.ref aw]) q=none:=by rw [aH hne]; exact hq
    have sq:=aD.new (o:=.tup [.int (i:Nat),.ref p]) hq1
    have ep:upd (upd H4 p (.tup [.int h,.ref aw])) q (.tup [.int (i:Nat),.ref p]) p=some (.tup [.int h,.ref aw]):=sq _ _ aB
    have eq:upd (upd H4 p (.tup [.int h,.ref aw])) q (.tup [.int (i:Nat),.ref p]) q=some (.tup [.int (i:Nat),.ref p]):=aB
    have s5:=s4.trans (sp.trans sq)
    have R5:=R4.same (sp.trans sq)
    generalize upd (upd H4 p (.tup [.int h,.ref aw])) q (.tup [.int (i:Nat),.ref p])=H5 at ep eq s5 R5 ⊢
    refine ⟨q,_,rfl,SqT.of eq,rfl,_,_,rfl,_,_,rfl,p,_,rfl,SqT.of ep,rfl,_,_,rfl,_,_,rfl,rfl,rfl,?_⟩
    have hgl:h.toNat < qs.length:=by rw [R5.len,hl4]; omega
    obtain ⟨qh,hqh⟩:∃ qh,qs[h.toNat]?=some qh:=⟨_,Qc hgl⟩
    have hcast:((h.toNat:Nat):Int)=h:=by omega
    refine ⟨_,rfl,aw,rfl,⟨_,s5.seqT haw⟩,lU (K:=K) (a:=aw) (xs:=l.map V.int) (λj σ H6=>(∃ v6,σ = [some (.ref a),some (.ref c0),some (.ref rp),some (.int (i:Nat)),some (.int h),some (.ref aw),v6])/\aD H H6/\∃ rs,Rows H6 rp qs rs/\rs.length=n.toNat/\aBo (λg w t=>(w < i/\jA ws hs g w t)∨(w=i/\g=h/\t∈l.take j/\t≠h)) rs (6*i+j))
     ⟨⟨_,rfl⟩,s5,rs,R5,hl4,λg r hr=>⟨(E4 g r hr).1.congr λw t=>⟨.inl,λz=>z.elim id λz=>by rw [Yn] at z; exact (Qs z.2.2.1).elim⟩,(E4 g r hr).2⟩⟩ (λ_ σ H6 _ ⟨_,s6,_⟩=>s6.seqT haw) ?_ ?_⟩
    ·rintro j tv σ H6 htv ⟨⟨v6,rfl⟩,s6,rs,R6,hl6',E6⟩
     obtain ⟨t,ht,rfl⟩:=wG htv
     have hj:j < l.length:=(Qd.mp ht).1
     have etake:l.take (j+1)=l.take j++[t]:=by rw [Jd,ht]; rfl
     refine ⟨_,rfl,_,rfl,rfl,_,rfl,?_⟩
     refine cU (λc=>?_) (λc=>?_)
     ·have hth:t≠h:=λz=>by rw [z] at c; simp at c
      obtain ⟨r,hr⟩:∃ r,rs[h.toNat]?=some r:=⟨_,Qc (by rw [hl6']; omega)⟩
      have hat:atI (qs.map V.ref) h=some (.ref qh):=by
       have:=cF (xs:=qs.map V.ref) (j:=h.toNat) (v:=.ref qh) (by rw [Qe,hqh]; rfl)
       rwa [hcast] at this
      have hrow:=R6.row _ _ _ hqh hr
      have hrl:=(E6 _ _ hr).2
      have hqH:H qh=none:=(hqs qh (Qi hqh)).1
      refine ⟨_,rfl,_,rfl,_,rfl,rp,_,h,_,rfl,rfl,SqL.of R6.lst,hat,_,rfl,qh,_,rfl,vD.k (k:=.inl t) hrow (by rw [Rf]; omega),?_⟩
      refine ⟨⟨_,rfl⟩,s6.wr hqH,rs.set h.toNat (jL r (.inl t) (.int (i:Nat))),R6.put hqh hr,by rw [Xr]; exact hl6',λg2 r2 hr2=>?_⟩
      rw [Xz] at hr2
      by_cases eg:h.toNat=g2
      ·rw [if_pos eg,if_pos (by rw [hl6']; omega)] at hr2
       cases hr2
       have eg':((g2:Nat):Int)=h:=by omega
       refine ⟨((E6 _ _ hr).1.put i t).congr λw t'=>?_,Je (lI _ _ _) (by omega)⟩
       rw [hcast,eg',etake]
       constructor
       ·rintro ((z | ⟨z1,z2,z3,z4⟩) | ⟨z1,z2⟩)
        ·exact .inl z
        ·exact .inr ⟨z1,z2,Jv _ z3,z4⟩
        ·exact .inr ⟨z1,rfl,by rw [z2]; simp,by rw [z2]; exact hth⟩
       ·rintro (z | ⟨z1,z2,z3,z4⟩)
        ·exact .inl (.inl z)
        ·rcases Jh.mp z3 with z3 | z3
         ·exact .inl (.inr ⟨z1,z2,z3,z4⟩)
         ·exact .inr ⟨z1,Qo.mp z3⟩
      ·rw [if_neg eg] at hr2
       refine ⟨(E6 _ _ hr2).1.congr λw t'=>?_,Je (E6 _ _ hr2).2 (by omega)⟩
       have ng:¬ ((g2:Nat):Int)=h:=by omega
       constructor
       ·rintro (z | ⟨_,z2,_⟩)
        ·exact .inl z
        ·exact absurd z2 ng
       ·rintro (z | ⟨_,z2,_⟩)
        ·exact .inl z
        ·exact absurd z2 ng
     ·have hth:t=h:=by simpa using c
      refine ⟨⟨_,rfl⟩,s6,rs,R6,hl6',λg2 r2 hr2=>⟨(E6 _ _ hr2).1.congr λw t'=>?_,Je (E6 _ _ hr2).2 (by omega)⟩⟩
      rw [etake]
      constructor
      ·rintro (z | ⟨z1,z2,z3,z4⟩)
       ·exact .inl z
       ·exact .inr ⟨z1,z2,Jv _ z3,z4⟩
      ·rintro (z | ⟨z1,z2,z3,z4⟩)
       ·exact .inl z
       ·rcases Jh.mp z3 with z3 | z3
        ·exact .inr ⟨z1,z2,z3,z4⟩
        ·exact absurd ((Qo.mp z3).trans hth) z4
    ·rintro σ H6 ⟨⟨v6,rfl⟩,s6,rs,R6,hl6',E6⟩
     refine ⟨⟨_,_,_,_,rfl⟩,s6,rs,R6,hl6',λg2 r2 hr2=>⟨(E6 _ _ hr2).1.congr λw t'=>?_,Je (E6 _ _ hr2).2 (by rw [Qb]; omega)⟩⟩
     rw [Qb,Jf]
     constructor
     ·rintro (⟨z1,z2⟩ | ⟨z1,z2,z3,z4⟩)
      ·exact ⟨by omega,z2⟩
      ·subst z1
       exact ⟨by omega,by rw [hh,z2],l,hl,z3,by rw [z2]; exact z4⟩
     ·rintro ⟨z1,z2⟩
      by_cases hw:w < i
      ·exact .inl ⟨hw,z2⟩
      ·have ew:w=i:=by omega
       subst ew
       obtain ⟨z3,l',z4,z5,z6⟩:=z2
       rw [hh] at z3
       rw [hl] at z4
       cases z4
       have ez:h=g2:=Option.some.inj z3
       exact .inr ⟨rfl,ez.symm,z5,by rw [ez]; exact z6⟩
   ·rintro σ H4 ⟨⟨v3,v4,v5,v6,rfl⟩,s4,rs,R4,hl4,E4⟩
    refine ⟨_,rfl,k rp H4 qs rs s4 hrp0 (λq hq=>(hqs q hq).1) R4 hl4 λg r hr=>⟨(E4 g r hr).1.congr λw t=>⟨λz=>z.2,λz=>⟨?_,z⟩⟩,Je (E4 g r hr).2 (by rw [Qb]; omega)⟩⟩
    rw [Qb]
    exact (Qd.mp z.1).1
def Tp (H H':Hp):Prop:=∀ p xs,H p=some (.tup xs)->H' p=some (.tup xs)
theorem Tp.of (s:aD H H'):Tp H H':=λ_ _ h=>s _ _ h
theorem Tp.trans (a:Tp H H1) (b:Tp H1 H2):Tp H H2:=λp xs h=>b p xs (a p xs h)
theorem Tp.upd {u:HO} (h:∀ xs,H a≠some (.tup xs)):Tp H (upd H a u):=λp xs e=>by
 have ne:p≠a:=λz=>h xs (by rw [<- z]; exact e)
 rw [aH ne]; exact e
theorem wH {fs:List (Key×V)} {os:List Int} (h:fs.map (·.1)=os.map Sum.inl) (t:Int):(dJ fs (.inl t)).isSome=decide (t∈os):=by
 rw [<- hG]
 have:(fs.any λkv=>decide (kv.1=Sum.inl t))=((fs.map (·.1)).any λk=>decide (k=Sum.inl t)):=by rw [Wy]; rfl
 rw [this,h,Wy,Za]
 simp
structure Tree (ws:List (List Int)) (hs:List Int) (n first:Int) (H:Hp) (fs:List (Key×V)) (os:List Int):Prop where
 keys:fs.map (·.1)=os.map Sum.inl
 nd:os.Nodup
 rng:∀ o∈os,0<=o/\o < n
 head:os[0]?=some first
 v0:dJ fs (.inl first)=some .non
 par:∀ (j:Nat) (t:Int),0 < j->os[j]?=some t->∃ (p:Addr) (w:Nat) (g:Int) (i:Nat),dJ fs (.inl t)=some (.ref p)/\H p=some (.tup [.int (w:Nat),.int g,.int t])/\jA ws hs g w t/\i < j/\os[i]?=some g
section
variable {first:Int} {fs:List (Key×V)} {os:List Int}
theorem Tree.tp (T:Tree ws hs n first H fs os) (e:Tp H H'):Tree ws hs n first H' fs os :=
 ⟨T.keys,T.nd,T.rng,T.head,T.v0,λj t h0 h1=>let ⟨p,w,g,i,a,b,c⟩:=T.par j t h0 h1; ⟨p,w,g,i,a,e _ _ b,c⟩⟩
theorem Tree.len (T:Tree ws hs n first H fs os):os.length<=n.toNat:=lZ _ _ T.nd λx hx=>by have:=T.rng x hx; omega
theorem Tree.flen (T:Tree ws hs n first H fs os):fs.length=os.length:=by
 have:=congrArg Yk T.keys
 rwa [Qb,Qb] at this
theorem Tree.one (h0:0<=first) (h1:first < n):Tree ws hs n first H [(.inl first,.non)] [first] :=
 ⟨rfl,by simp,λo ho=>by rw [Qo.mp ho]; exact ⟨h0,h1⟩,rfl,eI rfl,λj t h2 h3=>by
  cases j with
  | zero=>omega
  | succ j=>simp at h3⟩
theorem Tree.grow (T:Tree ws hs n first H fs os) {p:Addr} {w:Nat} {g t:Int} {i:Nat} (hp:H p=some (.tup [.int (w:Nat),.int g,.int t])) (e:jA ws hs g w t) (hi:os[i]?=some g) (ht:t∉os) (r0:0<=t) (r1:t < n) :
  Tree ws hs n first H (fs++[(.inl t,.ref p)]) (os++[t]):=by
 have hv:dJ fs (.inl t)=none:=by
  have:=wH T.keys t
  rw [decide_eq_false ht] at this
  cases q:dJ fs (.inl t) with
  | none=>rfl
  | some v=>rw [q] at this; cases this
 have hlt:i < os.length:=(Qd.mp hi).1
 have val:∀ j:Key,dJ (fs++[(.inl t,.ref p)]) j=if j=.inl t then some (.ref p) else dJ fs j:=λj=>oZ _ _ _ _ hv
 have hf:first∈os:=Qi T.head
 refine ⟨by rw [Qp,Qp,T.keys]; rfl,?_,λo ho=>?_,?_,?_,λj t' h0 h1=>?_⟩
 ·rw [Wj]
  exact ⟨T.nd,by simp,λx hx y hy z=>ht (by rw [<- Qo.mp hy,<- z]; exact hx)⟩
 ·rcases Jh.mp ho with h | h
  ·exact T.rng o h
  ·rw [Qo.mp h]; exact ⟨r0,r1⟩
 ·rw [Qt (by omega)]; exact T.head
 ·rw [val,if_neg (λz=>ht (by have:first=t:=(by simpa using z); rw [<- this]; exact hf))]
  exact T.v0
 ·by_cases hj:j < os.length
  ·rw [Qt hj] at h1
   obtain ⟨p',w',g',i',a,b,c,d,e'⟩:=T.par j t' h0 h1
   have ne:(Sum.inl t':Key)≠Sum.inl t:=λz=>ht (by have:t'=t:=(by simpa using z); rw [<- this]; exact Qi h1)
   exact ⟨p',w',g',i',by rw [val,if_neg ne]; exact a,b,c,d,by rw [Qt (by omega)]; exact e'⟩
  ·have ej:j=os.length:=by
    have:=(Qd.mp h1).1
    rw [Qq] at this
    simp at this
    omega
   subst ej
   rw [Ji (Qh _),Nat.sub_self] at h1
   have et:t'=t:=by simpa using h1.symm
   subst et
   exact ⟨p,w,g,i,by rw [val,if_pos rfl],hp,e,hlt,by rw [Qt hlt]; exact hi⟩
theorem Tree.rl (T:Tree ws hs n first H fs os):∀ (j:Nat) (t:Int),os[j]?=some t->RL ws hs j first t:=by
 intro j
 induction j using Nat.strongRecOn with
 | ind j ih =>
  intro t ht
  by_cases h0:j=0
  ·subst h0
   rw [T.head] at ht
   exact Option.some.inj ht
  ·obtain ⟨p,w,g,i,_,_,e,hi,hg⟩:=T.par j t (by omega) ht
   exact ((ih i hi g hg).snoc e).mono (by omega)
end
def aGF (ws:List (List Int)) (hs os:List Int):Prop:=∀ g∈os,∀ w t,jA ws hs g w t->t∈os
def uI (K:Rc):Sp:=λvs H Q _=>∃ rp first qs rs n ws hs,vs = [.ref rp,.int first]/\Rows H rp qs rs/\rs.length=n.toNat/\aBo (jA ws hs) rs 100/\(∀ g w t,jA ws hs g w t->0<=t/\t < n)/\n<=6/\0<=first/\first < n /\
 ∀ fd H' fs os,aD H H'->H fd=none->H' fd=some (.dK fs)->Tree ws hs n first H' fs os->aGF ws hs os->Q (.ref fd) H'
theorem kA:FnScope ["rows", "first", "found", "waiting", "giver", "taker"] ["rows", "first"] (aG nS):=⟨rfl,rfl,rfl,by decide +kernel,rfl,by decide +kernel,by decide +kernel⟩
theorem aAx (G:Fn K mg "reached" nS ["rows", "first"] f fd) (B:Bl mg):FnOk P w K mg base CX0 1 f fd ["rows", "first"] (uI K):=by
 refine G.fn.ok kA (λvs H Q E h=>?_) (λcdv A outer s H vs Q E hr h=>?_)
 ·obtain ⟨rp,first,qs,rs,n,ws,hs,rfl,_⟩:=h
  rfl
 ·obtain ⟨rp,first,qs,rs,n,ws,hs,rfl,R,hlr,ER,hedge,hn6,hf0,hf1,k⟩:=h
  refine ⟨_,(aE (aS (i:=2) kA.nd rfl (Or.inl rfl) (aDo (pv 1) aF0))
   (aE (aS (i:=3) kA.nd rfl (Or.inl rfl) (eP (aA (pv 1) aC)))
   (aE (qS PassesOwn.never (aCR (pv 3) (λ_=>rfl))
    (aE (aS (i:=4) kA.nd rfl (Or.inl rfl) (nH Rw PySem.F.slot_list_pop PySem.F.type_list_pop aCX (pv 3) (aA aI aC)))
    (aJ (aEV (eF PassesOwn.never rfl (aEU (aZ cG (pv 0) (pv 4) (λ_ _=>rfl))) (aK (i:=5) kA.nd rfl (Or.inl rfl))
     (aJ (cJ (aCJ (aB7 (kU hr) (pv 5) (pv 2)) (by with_unfolding_all rfl))
      (aE (vE (kU hr) (pv 2) (pv 5) (cH (aA (nK (kU hr) (aZ cG (pv 0) (pv 4) (λ_ _=>rfl)) (pv 5) (λ_ _=>rfl)) (aA (pv 4) (aA (pv 5) aC)))) rfl)
      (aJ (gA (nH Rw Ry Rz iO (pv 3) (aA (pv 5) aC)))))
      bI)))))))
   (aJ (aX (pv 2)))))),?_⟩
  intro fd0 hfd0
  refine ⟨_,rfl,.inl first,rfl,aB,?_⟩
  rw [aAO]
  have s1:=aD.new (o:=.dK [(.inl first,.non)]) hfd0
  have e1:upd H fd0 (.dK [(.inl first,.non)]) fd0=some (.dK [(.inl first,.non)]):=aB
  generalize upd H fd0 (.dK [(.inl first,.non)])=H1 at s1 e1 ⊢
  refine ⟨_,rfl,sz1 _,λwt hwt=>?_⟩
  have hwt0:H wt=none:=s1.free hwt
  have nfw:fd0≠wt:=λz=>by rw [z,hwt] at e1; cases e1
  have s2:=s1.trans (aD.new (o:=.lst [.int first]) hwt)
  have e2:=(aD.new (o:=.lst [.int first]) hwt) _ _ e1
  have w2:upd H1 wt (.lst [.int first]) wt=some (.lst [.int first]):=aB
  generalize upd H1 wt (.lst [.int first])=H2 at s2 e2 w2 ⊢
  -- the while
  refine ⟨λm σ H3=>∃ (v4 v5:Option V) (mm:Nat) (fs:List (Key×V)) (os:List Int),σ = [some (.ref rp),some (.int first),some (.ref fd0),some (.ref wt),v4,v5]/\m=n.toNat - mm/\aD H H3/\H3 fd0=some (.dK fs)/\H3 wt=some (.lst ((os.drop mm).map V.int))/\Tree ws hs n first H3 fs os/\mm<=os.length /\
    ∀ (i:Nat) (g:Int),i < mm->os[i]?=some g->∀ w t,jA ws hs g w t->t∈os,
   ⟨n.toNat - 0,none,none,0,_,[first],rfl,rfl,s2,e2,w2,Tree.one hf0 hf1,Jr _,λi g hi=>absurd hi (Zm _)⟩,?_⟩
  rintro m σ H3 ⟨v4,v5,mm,fs,os,rfl,rfl,s3,e3,w3,T3,hmm,pr3⟩
  refine ⟨_,rfl,!((os.drop mm).map V.int).isEmpty,.inl ⟨_,SqL.of w3,rfl⟩,?_⟩
  by_cases hend:mm < os.length
  ·-- a turn
   have hne:(os.drop mm)≠[]:=by
    intro z
    have:=congrArg Yk z
    rw [Jy] at this
    simp at this
    omega
   have hb:(!((os.drop mm).map V.int).isEmpty)=true:=by
    cases q:os.drop mm with
    | nil=>exact absurd q hne
    | cons _ _=>rfl
   rw [hb]
   refine fZ ?_
   have hdrop:os.drop mm=os[mm]::os.drop (mm+1):=Wb hend
   have hgm:os[mm]?=some (os[mm]):=Qc hend
   generalize os[mm]=g at hdrop hgm
   obtain ⟨hg0,hg1⟩:=T3.rng g (Qi hgm)
   have holen:=T3.len
   refine ⟨λσ' H'=>∃ m',m' < n.toNat - mm/\∃ (v4 v5:Option V) (mm:Nat) (fs:List (Key×V)) (os:List Int),σ' = [some (.ref rp),some (.int first),some (.ref fd0),some (.ref wt),v4,v5]/\m'=n.toNat - mm/\aD H H'/\H' fd0=some (.dK fs)/\H' wt=some (.lst ((os.drop mm).map V.int))/\Tree ws hs n first H' fs os/\mm<=os.length /\
    ∀ (i:Nat) (g:Int),i < mm->os[i]?=some g->∀ w t,jA ws hs g w t->t∈os,λσ' H' z=>z,?_⟩
   refine ⟨_,rfl,.inl ⟨rfl,_,SqL.of w3⟩,?_⟩
   have hx0:((os.drop mm).map V.int)[0]?=some (.int g):=by rw [hdrop]; rfl
   have hxl:0 < ((os.drop mm).map V.int).length:=(Qd.mp hx0).1
   refine ⟨wt,_,0,0,.int g,rfl,rfl,w3,by decide,by decide,nM (i:=0) (by decide) hxl,hx0,?_⟩
   have her:((os.drop mm).map V.int).eraseIdx 0=(os.drop (mm+1)).map V.int:=by rw [hdrop]; rfl
   rw [her]
   have s4:=s3.wr (u:=.lst ((os.drop (mm+1)).map V.int)) hwt0
   have e4:upd H3 wt (.lst ((os.drop (mm+1)).map V.int)) fd0=some (.dK fs):=by rw [aH nfw]; exact e3
   have w4:upd H3 wt (.lst ((os.drop (mm+1)).map V.int)) wt=some (.lst ((os.drop (mm+1)).map V.int)):=aB
   have T4:=T3.tp (Tp.upd (a:=wt) (u:=.lst ((os.drop (mm+1)).map V.int)) λxs z=>by rw [w3] at z; cases z)
   generalize upd H3 wt (.lst ((os.drop (mm+1)).map V.int))=H4 at s4 e4 w4 T4 ⊢
   -- the row
   have R4:=R.same s4
   have hgl:g.toNat < qs.length:=by rw [R.len,hlr]; omega
   have hcast:((g.toNat:Nat):Int)=g:=by omega
   obtain ⟨qg,hqg⟩:∃ q,qs[g.toNat]?=some q:=⟨_,Qc hgl⟩
   obtain ⟨r,hr⟩:∃ r,rs[g.toNat]?=some r:=⟨_,Qc (by rw [hlr]; omega)⟩
   have hat:atI (qs.map V.ref) g=some (.ref qg):=by
    have:=cF (xs:=qs.map V.ref) (j:=g.toNat) (v:=.ref qg) (by rw [Qe,hqg]; rfl)
    rwa [hcast] at this
   have hrow:=R.row _ _ _ hqg hr
   have hrow4:=s4 _ _ hrow
   obtain ⟨hRE,hRl⟩:=ER _ _ hr
   rw [hcast] at hRE
   have nqf:qg≠fd0:=λz=>by rw [z,hfd0] at hrow; cases hrow
   have nqw:qg≠wt:=λz=>by rw [z,hwt0] at hrow; cases hrow
   have nqr:rp≠qg:=λz=>by have:=R.lst; rw [z,hrow] at this; cases this
   refine ⟨_,rfl,_,rfl,rp,_,g,_,rfl,rfl,SqL.of R4.lst,hat,qg,r,rfl,hrow4,λo nf=>?_⟩
   have z5:upd H4 qg (.frz o (.dK r)) qg=some (.frz o (.dK r)):=aB
   have b5:But qg H (upd H4 qg (.frz o (.dK r))):=λb u nb hb=>by rw [aH nb]; exact s4 _ _ hb
   have e5:upd H4 qg (.frz o (.dK r)) fd0=some (.dK fs):=by rw [aH (Ne.symm nqf)]; exact e4
   have w5:upd H4 qg (.frz o (.dK r)) wt=some (.lst ((os.drop (mm+1)).map V.int)):=by rw [aH (Ne.symm nqw)]; exact w4
   have T5:=T4.tp (Tp.upd (a:=qg) (u:=.frz o (.dK r)) λxs z=>by rw [hrow4] at z; cases z)
   generalize upd H4 qg (.frz o (.dK r))=H5 at z5 b5 e5 w5 T5 ⊢
   refine aDn (a:=qg) (o:=o) (kvs:=r) (λj σ H6=>∃ (v5:Option V) (fs:List (Key×V)) (os:List Int),σ = [some (.ref rp),some (.int first),some (.ref fd0),some (.ref wt),some (.int g),v5]/\H6 qg=some (.frz o (.dK r))/\But qg H H6/\H6 fd0=some (.dK fs)/\H6 wt=some (.lst ((os.drop (mm+1)).map V.int))/\Tree ws hs n first H6 fs os/\mm+1<=os.length/\os[mm]?=some g /\
     (∀ (i:Nat) (g:Int),i < mm->os[i]?=some g->∀ w t,jA ws hs g w t->t∈os)/\∀ (i:Nat) k v t,i < j->r[i]?=some (k,v)->k=.inl t->t∈os)
    ⟨v5,fs,os,rfl,z5,b5,e5,w5,T5,hend,hgm,pr3,λi k v t hi=>absurd hi (Zm _)⟩ (λj σ H6 _ ⟨_,_,_,_,h,_⟩=>h) ?_ ?_
   ·rintro j ⟨key,val⟩ σ H6 hj ⟨v5,fs,os,rfl,z6,b6,e6,w6,T6,hl6,hg6,pr6,dn6⟩
    -- the key is a hand,its value a work
    obtain ⟨val',hval⟩:∃ v,dJ r key=some v:=by
     have:(dJ r key).isSome=true:=by
      rw [<- hG,Yc]
      exact ⟨_,Qi hj,by simp⟩
     cases q:dJ r key with
     | none=>rw [q] at this; cases this
     | some v=>exact ⟨v,rfl⟩
    obtain ⟨wk,t,rfl,rfl,hE⟩:=hRE.1 _ _ hval
    obtain ⟨ht0,ht1⟩:=hedge _ _ _ hE
    dsimp only [kV]
    have dn:∀ (os':List Int),t∈os'->(∀ x∈os,x∈os')->∀ (i:Nat) k v t',i < j+1->r[i]?=some (k,v)->k=.inl t'->t'∈os':=λos' h1 h2 i k v t' hi hk he=>by
     by_cases hij:i < j
     ·exact h2 _ (dn6 i k v t' hij hk he)
     ·have:i=j:=by omega
      subst this
      rw [hj] at hk
      cases hk
      have:t=t':=by simpa using he
      rw [<- this]; exact h1
    refine ⟨_,rfl,_,rfl,fd0,_,rfl,sZ.k (k:=.inl t) e6,_,rfl,?_⟩
    rw [wH T6.keys]
    by_cases htm:t∈os
    ·rw [decide_eq_true htm]
     refine gX ?_
     exact ⟨_,fs,os,rfl,z6,b6,e6,w6,T6,hl6,hg6,pr6,dn os htm λ_ h=>h⟩
    ·rw [decide_eq_false htm]
     refine fZ ?_
     have hR6:H6 rp=some (.lst (qs.map V.ref)):=b6 _ _ nqr R.lst
     refine ⟨_,rfl,_,rfl,rp,_,g,_,rfl,rfl,SqL.of hR6,hat,_,rfl,qg,.int (wk:Nat),rfl,.inl ⟨r,.inl t,.inr ⟨o,z6⟩,rfl,hval.symm⟩,_,rfl,_,rfl,cZ (show 3<=1000 by decide),λp hp=>?_⟩
     have sp:=aD.new (o:=.tup [.int (wk:Nat),.int g,.int t]) hp
     have ep:upd H6 p (.tup [.int (wk:Nat),.int g,.int t]) p=_:=aB
     have b7:But qg H (upd H6 p (.tup [.int (wk:Nat),.int g,.int t])):=b6.trans (But.of sp)
     have z7:=sp _ _ z6
     have e7:=sp _ _ e6
     have w7:=sp _ _ w6
     have T7:=T6.tp (Tp.of sp)
     generalize upd H6 p (.tup [.int (wk:Nat),.int g,.int t])=H7 at sp ep b7 z7 e7 w7 T7 ⊢
     have hv:dJ fs (.inl t)=none:=by
      have:=wH T7.keys t
      rw [decide_eq_false htm] at this
      cases q:dJ fs (.inl t) with
      | none=>rfl
      | some v=>rw [q] at this; cases this
     have T7l:=T7.len
     have T7f:=T7.flen
     have T8:=T7.grow ep hE hg6 htm ht0 ht1
     have hput:jL fs (.inl t) (.ref p)=fs++[(.inl t,.ref p)]:=aDj _ hv
     refine ⟨_,rfl,_,rfl,fd0,_,rfl,vD.k (k:=.inl t) e7 (by rw [Rf]; omega),?_⟩
     rw [hput]
     have b8:But qg H (upd H7 fd0 (.dK (fs++[(.inl t,.ref p)]))):=λb u nb hb=>by
      rw [aH (λz=>by rw [z,hfd0] at hb; cases hb)]
      exact b7 b u nb hb
     have z8:upd H7 fd0 (.dK (fs++[(.inl t,.ref p)])) qg=some (.frz o (.dK r)):=by rw [aH nqf]; exact z7
     have e8:upd H7 fd0 (.dK (fs++[(.inl t,.ref p)])) fd0=_:=aB
     have w8:upd H7 fd0 (.dK (fs++[(.inl t,.ref p)])) wt=some (.lst ((os.drop (mm+1)).map V.int)):=by rw [aH (Ne.symm nfw)]; exact w7
     have T8':=T8.tp (Tp.upd (a:=fd0) (u:=.dK (fs++[(.inl t,.ref p)])) λxs z=>by rw [e7] at z; cases z)
     generalize upd H7 fd0 (.dK (fs++[(.inl t,.ref p)]))=H8 at b8 z8 e8 w8 T8' ⊢
     refine ⟨_,rfl,.inl ⟨rfl,_,SqL.of w8⟩,_,rfl,wt,_,.int t,rfl,rfl,w8,by rw [Qb,Jy,Rf]; omega,?_⟩
     have hdr:(os.drop (mm+1)).map V.int++[V.int t]=((os++[t]).drop (mm+1)).map V.int:=by
      rw [List.drop_append_of_le_length hl6,Qp]; rfl
     rw [hdr]
     refine ⟨_,_,os++[t],rfl,by rw [aH nqw]; exact z8,λb u nb hb=>?_,by rw [aH nfw]; exact e8,aB,T8'.tp (Tp.upd λxs z=>by rw [w8] at z; cases z),by rw [Qq]; omega,by rw [Qt (by omega)]; exact hg6,λi g' hi hg' w t' e'=>?_,dn _ (by simp) λx hx=>Jv _ hx⟩
     ·rw [aH (λz=>by rw [z,hwt0] at hb; cases hb)]
      exact b8 b u nb hb
     ·rw [Qt (by omega)] at hg'
      exact Jv _ (pr6 i g' hi hg' w t' e')
   ·rintro σ H6 ⟨v5,fs,os,rfl,z6,b6,e6,w6,T6,hl6,hg6,pr6,dn6⟩
    refine ⟨qg,o,r,z6,nf,?_⟩
    have hole:=T6.len
    have s7:aD H (upd H6 qg (.dK r)):=λb u hb=>by
     by_cases hbq:b=qg
     ·rw [hbq] at hb ⊢
      rw [aB,<- hrow]; exact hb
     ·rw [aH hbq]; exact b6 b u hbq hb
    refine ⟨n.toNat - (mm+1),by omega,_,_,mm+1,fs,os,rfl,rfl,s7,by rw [aH (Ne.symm nqf)]; exact e6,by rw [aH (Ne.symm nqw)]; exact w6,T6.tp (Tp.upd λxs z=>by rw [z6] at z; cases z),hl6,λi g' hi hg' w t e=>?_⟩
    by_cases him:i < mm
    ·exact pr6 i g' him hg' w t e
    ·have:i=mm:=by omega
     subst this
     rw [hg6] at hg'
     cases hg'
     have hs:=hRE.2 w t e
     rw [<- hG,Yc] at hs
     obtain ⟨⟨k,v⟩,hk,he⟩:=hs
     obtain ⟨j,hj⟩:=Jb.mp hk
     exact dn6 j k v t (Qd.mp hj).1 hj (by simpa using he)
  ·have hlen:mm=os.length:=by omega
   have hb:(!((os.drop mm).map V.int).isEmpty)=false:=by rw [hlen,List.drop_length]; rfl
   rw [hb]
   refine gX ?_
   refine ⟨_,rfl,k fd0 H3 fs os s3 hfd0 e3 T3 λg hg w t e=>?_⟩
   obtain ⟨i,hi⟩:=Jb.mp hg
   exact pr3 i g (by have:=(Qd.mp hi).1; omega) hi w t e
structure StepsAt (H:Hp) (ps:List Addr) (ss:List (Nat×Int×Int)):Prop where
 len:ps.length=ss.length
 at_:∀ (i:Nat) p s,ps[i]?=some p->ss[i]?=some s->H p=some (.tup [.int (s.1:Nat),.int s.2.1,.int s.2.2])
theorem StepsAt.nil:StepsAt H [] []:=⟨rfl,λi p s h=>by simp at h⟩
theorem StepsAt.cons {ps:List Addr} (h:StepsAt H ps ss) {p:Addr} {w:Nat} {g t:Int} (hp:H p=some (.tup [.int (w:Nat),.int g,.int t])):StepsAt H (p::ps) ((w,g,t)::ss):=by
 refine ⟨by rw [Ja,Ja,h.len],λi p' s h1 h2=>?_⟩
 cases i with
 | zero =>
  have e1:p=p':=by simpa using h1
  have e2:(w,g,t)=s:=by simpa using h2
  subst e1 e2
  exact hp
 | succ i=>exact h.at_ i p' s (by simpa using h1) (by simpa using h2)
theorem StepsAt.tp {ps:List Addr} (h:StepsAt H ps ss) (e:Tp H H'):StepsAt H' ps ss:=⟨h.len,λi p s a b=>e _ _ (h.at_ i p s a b)⟩
def aBp (K:Rc):Sp:=λvs H Q _=>∃ fdp last fs os first n ws hs jl,vs = [.ref fdp,.int last]/\H fdp=some (.dK fs)/\Tree ws hs n first H fs os/\n<=6/\os[jl]?=some last /\
 ∀ p H' ps ss,aD H H'->H p=none->H' p=some (.lst (ps.map V.ref))->StepsAt H' ps ss->eT ws hs first ss last->(first::ss.map (·.2.2)).Nodup->(∀ s∈ss,s.2.2∈os)->(0 < jl->ss≠[])->Q (.ref p) H'
theorem qO:FnScope ["found", "last", "some", "step"] ["found", "last"] (aG vU):=⟨rfl,rfl,rfl,by decide +kernel,rfl,by decide +kernel,by decide +kernel⟩
theorem aD2 (G:Fn K mg "way_to" vU ["found", "last"] f fd) (B:Bl mg):FnOk P w K mg base CX0 1 f fd ["found", "last"] (aBp K):=by
 refine G.fn.ok qO (λvs H Q E h=>?_) (λcdv A outer s H vs Q E hr h=>?_)
 ·obtain ⟨fdp,last,fs,os,first,n,ws,hs,jl,rfl,_⟩:=h
  rfl
 ·obtain ⟨fdp,last,fs,os,first,n,ws,hs,jl,rfl,hfd,T,hn6,hjl,k⟩:=h
  refine ⟨_,(aE (aS (i:=2) qO.nd rfl (Or.inl rfl) (eP aC))
   (aE (aS (i:=3) qO.nd rfl (Or.inl rfl) (nK (kU hr) (pv 0) (pv 1) (λ_ _=>rfl)))
   (aE (qS PassesOwn.never (aCJ (aEA (pv 3)))
    (aE (gA (nH Rw Ry Rz iO (pv 2) (aA (pv 3) aC)))
    (aJ (aS (i:=3) qO.nd rfl (Or.inl rfl) (nK (kU hr) (pv 0) (aZ bY (pv 3) aI (λ_ _=>rfl)) (λ_ _=>rfl))))))
   (aJ (aX (aEQ (pv 2) (aFD aCM aI))))))),?_⟩
  have Tl:=T.len
  have hnsz:n.toNat < sizeLine:=by rw [Rf]; omega
  refine ⟨cZ (show 0<=1000 by decide),λsm hsm=>?_⟩
  have s1:=aD.new (o:=.lst []) hsm
  have e1:upd H sm (.lst []) sm=some (.lst []):=aB
  generalize upd H sm (.lst [])=H1 at s1 e1 ⊢
  -- what stands at a found hand
  have vals:∀ (j:Nat) (t:Int),os[j]?=some t->∃ v,dJ fs (.inl t)=some v/\((j=0/\v=.non)∨∃ p w g i,0 < j/\v=.ref p/\H p=some (.tup [.int (w:Nat),.int g,.int t])/\jA ws hs g w t/\i < j/\os[i]?=some g):=λj t ht=>by
   by_cases hj:j=0
   ·subst hj
    rw [T.head] at ht
    cases ht
    exact ⟨_,T.v0,.inl ⟨rfl,rfl⟩⟩
   ·obtain ⟨p,w,g,i,a,b,c,d,e⟩:=T.par j t (by omega) ht
    exact ⟨_,a,.inr ⟨p,w,g,i,by omega,rfl,b,c,d,e⟩⟩
  obtain ⟨v0,hv0,_⟩:=vals jl last hjl
  refine ⟨_,rfl,_,rfl,fdp,v0,rfl,.inl ⟨fs,.inl last,.inl (s1 _ _ hfd),rfl,hv0.symm⟩,?_⟩
  refine ⟨λm σ H2=>∃ (j:Nat) (t:Int) (v:V) (rps:List Addr) (ss:List (Nat×Int×Int)),m=j/\σ = [some (.ref fdp),some (.int last),some (.ref sm),some v]/\os[j]?=some t/\dJ fs (.inl t)=some v/\aD H H2/\H2 sm=some (.lst (rps.map V.ref))/\StepsAt H2 rps.reverse ss/\eT ws hs t ss last/\(t::ss.map (·.2.2)).Nodup /\
    (∀ x∈ss.map (·.2.2),∃ i:Nat,j < i/\os[i]?=some x)/\rps.length+j<=jl/\(j < jl->ss≠[]),
   ⟨jl,jl,last,v0,[],[],rfl,rfl,hjl,hv0,s1,e1,StepsAt.nil,rfl,by simp,λx h=>by simp at h,by simp,λh=>by omega⟩,?_⟩
  rintro j σ H2 ⟨_,t,v,rps,ss,rfl,rfl,hj,hv,s2,e2,S2,P2,N2,I2,L2',L3⟩
  have hjo:jl < os.length:=(Qd.mp hjl).1
  obtain ⟨v',hv',cs⟩:=vals j t hj
  rw [hv] at hv'
  cases hv'
  rcases cs with ⟨rfl,rfl⟩ | ⟨p,w,g,i,hj0,rfl,hp,hE,hij,hg⟩
  ·refine ⟨_,rfl,_,rfl,?_⟩
   refine gX ?_
   rw [T.head] at hj
   cases hj
   refine ⟨_,rfl,_,rfl,rfl,sm,_,rfl,SqL.of e2,λp hp=>?_⟩
   have s3:=aD.new (o:=.lst (rps.map V.ref).reverse) hp
   refine k p _ rps.reverse ss (s2.trans s3) (s2.free hp) (by rw [aB,List.map_reverse]) (S2.tp (Tp.of s3)) P2 N2 (λx hx=>?_) L3
   obtain ⟨i,_,hi⟩:=I2 _ (Qw.mpr ⟨x,hx,rfl⟩)
   exact Qi hi
  ·refine ⟨_,rfl,_,rfl,?_⟩
   refine fZ ?_
   obtain ⟨vg,hvg,_⟩:=vals i g hg
   refine ⟨λσ' H'=>∃ m',m' < j/\∃ (j:Nat) (t:Int) (v:V) (rps:List Addr) (ss:List (Nat×Int×Int)),m'=j/\σ' = [some (.ref fdp),some (.int last),some (.ref sm),some v]/\os[j]?=some t/\dJ fs (.inl t)=some v/\aD H H'/\H' sm=some (.lst (rps.map V.ref))/\StepsAt H' rps.reverse ss/\eT ws hs t ss last/\(t::ss.map (·.2.2)).Nodup /\
    (∀ x∈ss.map (·.2.2),∃ i:Nat,j < i/\os[i]?=some x)/\rps.length+j<=jl/\(j < jl->ss≠[]),λσ' H' z=>z,?_⟩
   have hsz:(rps.map V.ref).length < sizeLine:=by
    rw [Qb]
    exact Yf (Je (Je (Xy _ _) L2') (Je (Yo hjo) Tl)) hnsz
   refine ⟨_,rfl,.inl ⟨rfl,_,SqL.of e2⟩,_,rfl,sm,_,.ref p,rfl,rfl,e2,hsz,?_⟩
   have s3:aD H (upd H2 sm (.lst (rps.map V.ref++[.ref p]))):=s2.wr hsm
   have e3:upd H2 sm (.lst (rps.map V.ref++[.ref p])) sm=_:=aB
   have S3:=S2.tp (Tp.upd (a:=sm) (u:=.lst (rps.map V.ref++[.ref p])) λxs z=>by rw [e2] at z; cases z)
   generalize upd H2 sm (.lst (rps.map V.ref++[.ref p]))=H3 at s3 e3 S3 ⊢
   have hp3:=s3 _ _ hp
   refine ⟨_,rfl,_,rfl,p,_,1,.int g,rfl,rfl,SqT.of hp3,rfl,fdp,vg,rfl,.inl ⟨fs,.inl g,.inl (s3 _ _ hfd),rfl,hvg.symm⟩,?_⟩
   refine ⟨i,hij,i,g,vg,rps++[p],(w,g,t)::ss,rfl,rfl,hg,hvg,s3,by rw [Qp]; exact e3,?_,⟨rfl,hE,P2⟩,?_,?_,?_,λ_=>by simp⟩
   ·rw [Qae]
    exact S3.cons hp3
   ·show (g::t::ss.map (·.2.2)).Nodup
    rw [Xf]
    refine ⟨λhm=>?_,N2⟩
    have inj:∀ i',i < i'->os[i']?=some g->False:=λi' h1 h2=>by
     have:=(Wi (Qd.mp hg).1 T.nd).mp (hg.trans h2.symm)
     omega
    rcases Qn.mp hm with e | hm
    ·exact inj j hij (by rw [e]; exact hj)
    ·obtain ⟨i',h1,h2⟩:=I2 g hm
     exact inj i' (by omega) h2
   ·intro x hx
    rcases Qn.mp (show x∈t::ss.map (·.2.2) from hx) with rfl | hx
    ·exact ⟨j,hij,hj⟩
    ·obtain ⟨i',h1,h2⟩:=I2 x hx
     exact ⟨i',by omega,h2⟩
   ·rw [Qq]
    show rps.length+1+i<=jl
    omega
def oC:Str:=("levels_or_way" : Str) ++ ".<locals>." ++ "<lambda>"
theorem sA {h:Int} (h0:0<=h) (h1:h < n):atI ((aF n hs).map V.int) h=some (.int ((hs.count h:Nat):Int)):=by
 have hlt:h.toNat < n.toNat:=by omega
 have hcast:((h.toNat:Nat):Int)=h:=by omega
 have h1:((aF n hs).map V.int)[h.toNat]?=some (.int ((hs.count h:Nat):Int)):=by rw [Qe,gN hlt,hcast]; rfl
 have h2:=cF h1
 rwa [hcast] at h2
def aHz (n:Int) (ws:List (List Int)) (hs:List Int) (H H':Hp) (p:Addr):Prop :=
 (∃ q lv,H' p=some (.tup [.str "levels",.ref q])/\H' q=some (.tup (lv.map V.int))/\eJ n ws hs lv) ∨
 ∃ q ps ss,H' p=some (.tup [.str "way",.ref q])/\H q=none/\H' q=some (.lst (ps.map V.ref))/\StepsAt H' ps ss/\qC n ws hs ss
def aBq (K:Rc) (Pt:Addr):Sp:=λvs H Q _=>∃ x y n ws hs,vs = [x,y]/\eR K H x y n ws hs/\H Pt=some (.tab oC)/\∀ p H',aD H H'->aHz n ws hs H H' p->Q (.ref p) H'
theorem sB:FnScope ["book", "deal", "many", "rows", "levels", "hand", "found", "last"] ["book", "deal"] (aG aDN):=⟨rfl,rfl,rfl,by decide +kernel,rfl,by decide +kernel,by decide +kernel⟩
theorem aGG {fHd fR fW':Addr} {dHd dR dW':FuncData} (G:Fn K mg "levels_or_way" aDN ["book", "deal"] f fd) (hc:fd.code=.ref c) (Z:Lm K mg base c Pt) (B:Bl mg) (R:Pr K mg fW fH fK fB fNB fD fND fL dW dH dK dB dNB dD dND dL) (GH:Fn K mg "handing" lL ["book", "deal"] fHd dHd) (GR:Fn K mg "reached" nS ["rows", "first"] fR dR) (GW:Fn K mg "way_to" vU ["found", "last"] fW' dW'):FnOk P w K mg base CX0 8 f fd ["book", "deal"] (aBq K Pt):=by
 have OL:FnOk P w K mg base CX0 7 fL dL ["book", "deal"] (wB K):=yK B R
 have OH:FnOk P w K mg base CX0 1 fHd dHd ["book", "deal"] (uH K):=aAw GH B
 have OR:FnOk P w K mg base CX0 1 fR dR ["rows", "first"] (uI K):=aAx GR B
 have OW:FnOk P w K mg base CX0 1 fW' dW' ["found", "last"] (aBp K):=aD2 GW B
 refine G.fn.okC hc sB (λvs H Q E h=>?_) (λA outer s H vs Q E hr h=>?_)
 ·obtain ⟨x,y,n,ws,hs,rfl,_⟩:=h
  rfl
 ·obtain ⟨x,y,n,ws,hs,rfl,g,hT,k⟩:=h
  have r1:Room 1 _:=hr.mono (by decide)
  refine ⟨_,(aE (aS (i:=2) sB.nd rfl (Or.inr rfl) (bF R.L OL hr rfl (aA (pv 0) (aA (pv 1) aC))))
   (aE (aS (i:=3) sB.nd rfl (Or.inl rfl) (bF GH OH r1 rfl (aA (pv 0) (aA (pv 1) aC))))
   (aE (aS (i:=4) sB.nd rfl (Or.inl rfl) (eP aC))
   (aE (eF PassesOwn.never rfl (dP rfl B.range (aA (aZ bY (pv 0) aI (λ_ _=>rfl)) aC)) (aK (i:=5) sB.nd rfl (Or.inl rfl))
    (aE (aS (i:=6) sB.nd rfl (Or.inl rfl) (bF GR OR r1 rfl (aA (pv 3) (aA (pv 5) aC))))
    (aE (aS (i:=7) sB.nd rfl (Or.inl rfl) (aB9 2 rfl r1 rfl B.min Z rfl (q:=oC) rfl (pv 6) rfl rfl))
    (aE (cJ (bE wT (bH aF8 (aZ bY (pv 2) (pv 5) (λ_ _=>rfl)) (aZ bY (pv 2) (pv 7) (λ_ _=>rfl))) aI (bD _))
     (aJ (aX (cH (aA zL (aA (bF GW OW r1 rfl (aA (pv 6) (aA (pv 7) aC))) aC)))))
     bI)
    (aJ (gA (nH Rw Ry Rz iO (pv 4) (aA (aZ bY (pv 2) (pv 7) (λ_ _=>rfl)) aC))))))))
   (aJ (aX (cH (aA zL (aA (bR bV rfl B.tuple cM (aA (pv 4) aC)) aC))))))))),?_⟩
  obtain ⟨hl12,hn1,hn6⟩:=g.len
  obtain ⟨a,b,ys,ex,ha,hb2,hys⟩:=cY g.1
  obtain ⟨_,_,hw12,hws⟩:=bB g.2.1
  have hedge:∀ g w t,jA ws hs g w t->0<=t/\t < n:=λg w t e=>by
   obtain ⟨_,l,h1,h2,_⟩:=e
   exact (bL (hws l (Qi h1))).2.1 t h2
  refine ⟨_,rfl,_,rfl,x,y,n,ws,hs,rfl,g,λmp H1 s1 hmp=>?_⟩
  have g1:=g.same s1
  refine ⟨_,rfl,_,rfl,x,y,n,ws,hs,rfl,g1,λrp H2 qs rs s2 hrp hqs R2 hlr ER=>?_⟩
  refine ⟨cZ (show 0<=1000 by decide),λlp hlp=>?_⟩
  have s12:=s1.trans s2
  have s3:=s12.trans (aD.new (o:=.lst []) hlp)
  have hlp0:H lp=none:=s12.free hlp
  have R3:=R2.same (aD.new (o:=.lst []) hlp)
  have m3:=(s2.trans (aD.new (o:=.lst []) hlp)) _ _ hmp
  have e3:upd H2 lp (.lst []) lp=some (.lst []):=aB
  have hrp0:H rp=none:=s1.free hrp
  have nrl:rp≠lp:=λz=>by have:=R2.lst; rw [z,hlp] at this; cases this
  have nql:∀ q∈qs,q≠lp:=λq hq z=>by
   obtain ⟨i,hi⟩:=Jb.mp hq
   have hil:i < rs.length:=by rw [<- R2.len]; exact (Qd.mp hi).1
   have:=R2.row i q _ hi (Qc hil)
   rw [z,hlp] at this; cases this
  have nml:mp≠lp:=λz=>by have:=s2 _ _ hmp; rw [z,hlp] at this; cases this
  generalize upd H2 lp (.lst [])=H3 at s3 R3 m3 e3 ⊢
  subst ex
  refine ⟨_,rfl,a,_,0,.int n,rfl,rfl,s3.seqT ha,rfl,n,rfl,by omega,by omega,oR (lo:=0) (n:=n.toNat) (λi σ H4=>∃ (v5 v6 v7:Option V) (lv:List Int),σ = [some (.ref a),some y,some (.ref mp),some (.ref rp),some (.ref lp),v5,v6,v7]/\aD H H4/\Rows H4 rp qs rs/\H4 mp=some (.tup ((aF n hs).map V.int))/\H4 lp=some (.lst (lv.map V.int))/\lv.length=i /\
    ∀ (h:Nat) (v:Int),lv[h]?=some v->jZ ws hs n.toNat h v/\((hs.count (h:Int):Nat):Int) - v < 2)
   ⟨none,none,none,[],rfl,s3,R3,m3,e3,rfl,λh v e=>by simp at e⟩ ?_ ?_⟩
  ·rintro i σ H4 hi ⟨v5,v6,v7,lv,rfl,s4,R4,m4,e4,hlv,L4⟩
   have hi0:(0:Int)<=0+(i:Int):=by omega
   have hi1:0+(i:Int) < n:=by omega
   refine ⟨_,rfl,_,rfl,rp,0+(i:Int),qs,rs,n,ws,hs,rfl,R4,hlr,ER,hedge,hn6,hi0,hi1,λfdp H5 fs os s5 hfd e5 T5 C5=>?_⟩
   have s45:=s4.trans s5
   have R5:=R4.same s5
   have m5:=s5 _ _ m4
   have l5:=s5 _ _ e4
   have T5l:=T5.len
   have hpos:0 < os.length:=(Qd.mp T5.head).1
   refine ⟨_,rfl,os,λo=>((hs.count o:Nat):Int),.ref mp,⟨fdp,rfl,.inr (.inr ⟨fs,e5,T5.keys⟩)⟩,hpos,s45 _ _ hT,rfl,λo ho=>?_,λj m H6 s6 hj hmin _=>?_⟩
   ·obtain ⟨o0,o1⟩:=T5.rng o ho
    refine ⟨o0,by omega,mp,_,rfl,.inl (SqT.of m5),?_⟩
    rw [Qe,gN (by omega),show ((o.toNat:Nat):Int)=o by omega]
    rfl
   have hjl:j < os.length:=(Qd.mp hj).1
   obtain ⟨m0,m1⟩:=T5.rng m (Qi hj)
   have s46:=s45.trans s6
   have R6:=R5.same s6
   have m6:=s6 _ _ m5
   have l6:=s6 _ _ l5
   have e6:=s6 _ _ e5
   have T6:=T5.tp (Tp.of s6)
   have hRL:RL ws hs n.toNat (0+(i:Int)) m:=(T6.rl j m hj).mono (by omega)
   have hmin2:jZ ws hs n.toNat (0+(i:Int)) ((hs.count m:Nat):Int):=by
    refine ⟨⟨m,hRL,rfl⟩,λk x hx=>?_⟩
    exact hmin x (hx.closed (S:=λo=>o∈os) (λg w t hg e=>C5 g hg w t e) (Qi T5.head))
   refine ⟨_,rfl,_,rfl,mp,_,_,_,rfl,rfl,SqT.of m6,sA hi0 hi1,_,rfl,_,rfl,mp,_,_,_,rfl,rfl,SqT.of m6,sA m0 m1,_,_,rfl,rfl,_,_,rfl,rfl,_,rfl,?_⟩
   refine cU (λc=>?_) (λc=>?_)
   ·have hge:((hs.count (0+(i:Int)):Nat):Int) - ((hs.count m:Nat):Int)≥2:=of_decide_eq_true c
    refine ⟨_,rfl,_,rfl,fdp,m,fs,os,0+(i:Int),n,ws,hs,j,rfl,e6,T6,hn6,hj,λp H7 ps ss s7 hp hps S7 P7 N7 _ ne7=>⟨sz2 _ _,λq hq=>?_⟩⟩
    have s8:=aD.new (o:=.tup [.str "way",.ref p]) hq
    refine k q _ ((s46.trans s7).trans s8) (.inr ⟨p,ps,ss,aB,s46.free hp,s8 _ _ hps,S7.tp (Tp.of s8),0+(i:Int),m,ne7 ?_,P7,N7,hi0,hi1,hRL,hge⟩)
    rcases Nat.eq_zero_or_pos j with z | z
    ·rw [z,T5.head] at hj
     cases hj
     omega
    ·exact z
   ·have hlt:¬ ((hs.count (0+(i:Int)):Nat):Int) - ((hs.count m:Nat):Int)≥2:=λz=>c (decide_eq_true z)
    refine ⟨_,rfl,.inl ⟨rfl,_,SqL.of l6⟩,_,rfl,_,rfl,mp,_,_,_,rfl,rfl,SqT.of m6,sA m0 m1,lp,_,_,rfl,rfl,l6,by rw [Qb,Rf]; omega,?_⟩
    refine ⟨_,_,_,lv++[((hs.count m:Nat):Int)],rfl,s46.wr hlp0,?_,by rw [aH nml]; exact m6,by rw [aB,Qp]; rfl,by rw [Qq,hlv]; rfl,λh v e=>?_⟩
    ·refine ⟨by rw [aH nrl]; exact R6.lst,R6.len,R6.nd,λg q r h1 h2=>?_⟩
     rw [aH (nql q (Qi h1))]
     exact R6.row g q r h1 h2
    ·by_cases hh:h < lv.length
     ·rw [Qt hh] at e
      exact L4 h v e
     ·have eh:h=i:=by
       have:=(Qd.mp e).1
       rw [Qq] at this
       simp at this
       omega
      subst eh
      rw [Ji (by omega),hlv,Nat.sub_self] at e
      have ev:((hs.count m:Nat):Int)=v:=by simpa using e
      rw [<- ev]
      rw [Zd] at hmin2 hlt
      exact ⟨hmin2,by omega⟩
  ·rintro σ H4 ⟨v5,v6,v7,lv,rfl,s4,R4,m4,e4,hlv,L4⟩
   refine ⟨_,rfl,lp,_,rfl,.inl ⟨SqL.of e4,λq hq=>⟨sz2 _ _,λp hp=>?_⟩⟩⟩
   have s5:=(aD.new (o:=.tup (lv.map V.int)) hq).trans (aD.new (o:=.tup [.str "levels",.ref q]) hp)
   exact k p _ (s4.trans s5) (.inl ⟨q,lv,aB,(aD.new hp) _ _ aB,hlv,L4⟩)
theorem pG (ts:List Str):(tupleText ts).length<=3+piled ts:=by
 unfold tupleText
 rw [Str.length_append,Str.length_append]
 have e1:((("(" : String):Str)).length=1:=rfl
 have e3:(((if ts.length==1 then ",)" else ")" : String):Str)).length<=2:=by split <;> decide
 have e4:(Str.join ", " ts).length<=piled ts:=by
  cases ts with
  | nil=>decide
  | cons x r=>have:=join_length_add (x::r) (by simp); omega
 omega
theorem kO (f:α->PyData):∀ l:List α,PyData.shownAll (l.map f)=l.map λx=>(f x).shown
 | []=>by rw [Yp,PyData.shownAll]; rfl
 | x::r=>by rw [Qy,PyData.shownAll,kO f r]; rfl
theorem pH (f:α->Str) (k:Nat):∀ l:List α,(∀ x∈l,(f x).length<=k)->piled (l.map f)<=(k+2)*l.length
 | [],_=>by rw [Yp,piled_nil]; exact Jr _
 | x::r,h=>by
  rw [Qy,RaB,Ja,Nat.mul_succ]
  have h1:=h x (Qj ..)
  have h2:=pH f k r (λy hy=>h y (Qk _ hy))
  omega
theorem yP (l:List Int):(bM l).canLay0=true:=nY l
theorem yQ (n:Int) (ws:List (List Int)):(aV n ws).canLay0=true:=by
 have h:(PyData.tuple (ws.map bM)).canLay0=true:=by unfold PyData.canLay0; exact kK _ yP ws
 unfold aV
 rw [PyData.canLay0,PyData.canLayAll0,PyData.canLayAll0,nB,h,PyData.canLayAll0]
 rfl
theorem aAy (l:List Int):(bM l).depth<=1:=qA l
theorem aAz (n:Int) (ws:List (List Int)):(aV n ws).depth<=3:=by
 have h:(PyData.tuple (ws.map bM)).depth<=2:=by unfold PyData.depth; exact Yb (lX _ aAy ws)
 have h2:=pE n
 unfold aV
 rw [PyData.depth,PyData.depthAll,PyData.depthAll,PyData.depthAll]
 omega
mutual
theorem pI:∀ d:PyData,d.canLay0=true->cQ d=true
 | .none,_=>by unfold cQ; rfl
 | .bool _,_=>by unfold cQ; rfl
 | .int _,_=>by unfold cQ; rfl
 | .str _,_=>by unfold cQ; rfl
 | .list ds,h=>by unfold cQ; rw [PyData.canLay0] at h; exact nD ds h
 | .tuple ds,h=>by unfold cQ; rw [PyData.canLay0] at h; exact nD ds h
 | .dict _,h=>by rw [PyData.canLay0] at h; cases h
theorem nD:∀ ds:List PyData,PyData.canLayAll0 ds=true->gT ds=true
 | [],_=>by unfold gT; rfl
 | d::ds,h=>by
  rw [PyData.canLayAll0,Jn] at h
  unfold gT
  rw [pI d h.1,nD ds h.2]
  rfl
end
theorem kP (f:α->PyData):∀ l:List α,(∀ x∈l,(f x).showable=true)->PyData.showableAll (l.map f)=true
 | [],_=>by rw [Yp,PyData.showableAll]
 | x::r,h=>by rw [Qy,PyData.showableAll,h x (Qj ..),kP f r (λy hy=>h y (Qk _ hy))]; rfl
theorem wI {i:Int} (h:i.natAbs < 10^38):(PyData.int i).showable=true/\(PyData.int i).shown.length<=40:=by
 refine ⟨?_,?_⟩
 ·unfold PyData.showable
  refine decide_eq_true ?_
  by_cases z:i.natAbs=0
  ·rw [z]; decide
  ·have:i.natAbs.log2 < 128:=(Nat.log2_lt z).mpr (Qx h (by decide))
   omega
 ·have e:=int_text_length_le10 (a:=i) (k:=38) (by decide) h
  rw [PyData.shown]
  show (Str.ofString (toString i)).length<=_
  rw [ofString_length]
  omega
def d2 (n:Int) (ws:List (List Int)) (hs:List Int):PyData:=.list [aV n ws,bA hs]
theorem aBr (hl:l.length<=15) (h:∀ i∈l,i.natAbs < 10^38):(bM l).showable=true/\(bM l).shown.length<=640:=by
 unfold bM
 refine ⟨?_,?_⟩
 ·rw [PyData.showable]; exact kP _ l λx hx=>(wI (h x hx)).1
 ·rw [PyData.shown,kO]
  have h1:=pG (l.map λx=>(PyData.int x).shown)
  have h2:=pH (λx:Int=>(PyData.int x).shown) 40 l (λx hx=>(wI (h x hx)).2)
  omega
theorem aD3 (hw:ws.length<=30) (h:∀ l∈ws,l.length<=15/\∀ i∈l,i.natAbs < 10^38):(PyData.tuple (ws.map bM)).showable=true/\(PyData.tuple (ws.map bM)).shown.length<=20000:=by
 refine ⟨?_,?_⟩
 ·rw [PyData.showable]; exact kP _ ws λl hl=>(aBr (h l hl).1 (h l hl).2).1
 ·rw [PyData.shown,kO]
  have h1:=pG (ws.map λx=>(bM x).shown)
  have h2:=pH (λx=>(bM x).shown) 640 ws (λl hl=>(aBr (h l hl).1 (h l hl).2).2)
  omega
theorem nE:∀ {h x:Int} {ss:List (Nat×Int×Int)},eT ws hs h ss x->ss.map (·.2.1)++[x]=h::ss.map (·.2.2)
 | _,_,[],e=>by cases e; rfl
 | _,_,s::r,⟨e1,_,e3⟩=>by rw [Qy,Wn,nE e3,e1]; rfl
theorem mB:∀ {h x:Int} {ss:List (Nat×Int×Int)},eT ws hs h ss x->∀ (i:Nat) s,ss[i]?=some s->jA ws hs s.2.1 s.1 s.2.2/\∀ s',0 < i->ss[i - 1]?=some s'->s'.2.2=s.2.1
 | _,_,[],_,i,s,hs=>by simp at hs
 | h,_,a::r,⟨e1,e2,e3⟩,0,s,hs'=>by
  have:a=s:=by simpa using hs'
  subst this
  exact ⟨by rw [e1]; exact e2,λs' h0=>by omega⟩
 | h,_,a::r,⟨e1,e2,e3⟩,i+1,s,hs'=>by
  have hr:r[i]?=some s:=by simpa using hs'
  obtain ⟨p1,p2⟩:=mB e3 i s hr
  refine ⟨p1,λs' _ hs2=>?_⟩
  cases i with
  | zero =>
   have e:a=s':=by simpa using hs2
   subst e
   cases r with
   | nil=>simp at hr
   | cons b r' =>
    have:b=s:=by simpa using hr
    subst this
    exact e3.1.symm
  | succ i=>exact p2 s' (by omega) (by simpa using hs2)
theorem uJ:∀ {h x:Int} {ss:List (Nat×Int×Int)},eT ws hs h ss x->∀ s,ss[ss.length - 1]?=some s->s.2.2=x
 | _,_,[],_,s,e=>by simp at e
 | _,_,[a],⟨_,_,e3⟩,s,e=>by
  have:a=s:=by simpa using e
  subst this
  exact e3
 | _,_,a::b::r,⟨_,_,e3⟩,s,e=>uJ e3 s (by simpa using e)
def kW (s:Nat×Int×Int):List Int:=[(s.1:Int),s.2.1,s.2.2]
theorem StepsAt.den:∀ {ps:List Addr} {ss:List (Nat×Int×Int)},StepsAt H ps ss->aT K H ((ss.map kW).map bM) (ps.map V.ref)
 | [],[],_=>aO.mpr rfl
 | [],_::_,h=>by have:=h.len; simp at this
 | _::_,[],h=>by have:=h.len; simp at this
 | p::ps,s::ss,h=>by
  have h0:=h.at_ 0 p s rfl rfl
  have hr:StepsAt H ps ss:=⟨by have:=h.len; simpa using this,λi p' s' a b=>h.at_ (i+1) p' s' (by simpa using a) (by simpa using b)⟩
  exact aL.mpr ⟨_,_,rfl,aP.mpr ⟨p,rfl,SqT.of h0⟩,StepsAt.den hr⟩
end Ab
namespace L2
open PySem
end L2
namespace Ab
open PySem L2
theorem yR {k g t:Int} (h:gG ws hs [k,g,t]=true):0<=k/\k < hs.length/\hs[k.toNat]?=some g/\t≠g/\t∈ws.getD k.toNat []:=by
 have h':(decide (0<=k) && (decide (k < hs.length) && (hs[k.toNat]?==some g && (!decide (t=g) && decide (t∈ws.getD k.toNat [])))))=true:=h
 simp only [Jn,decide_eq_true_eq,beq_iff_eq,Bool.not_eq_true',decide_eq_false_iff_not] at h'
 exact ⟨h'.1,h'.2.1,h'.2.2.1,h'.2.2.2.1,h'.2.2.2.2⟩
def mP (hs:List Int) (L:List (List Int)):List Int:=L.foldl (λh st=>h.set (st.getD 0 0).toNat (rY st)) hs
theorem aCu (L:List (List Int)):∀ hs:List Int,(mP hs L).length=hs.length:=by
 induction L with
 | nil=>intro hs; rfl
 | cons s r ih=>intro hs; show (mP (hs.set _ _) r).length=_; rw [ih,Xr]
theorem aAA (hs:List Int) (L:List (List Int)) (st:List Int):mP hs (L++[st])=(mP hs L).set (st.getD 0 0).toNat (rY st):=by unfold mP; rw [Zo]; rfl
def WIn (K:Rc) (H:Hp) (x y:V) (p:Addr) (xs:List V) (n:Int) (ws:List (List Int)) (hs:List Int) (L:List (List Int)):Prop:=eR K H x y n ws hs/\SqL K H p xs/\aT K H (L.map bM) xs/\L.length<=30/\∀ l∈L,l.length<=1000
theorem WIn.same {p:Addr} {L:List (List Int)} (h:WIn K H x y p xs n ws hs L) (s:aD H H'):WIn K H' x y p xs n ws hs L:=⟨h.1.same s,s.seqL h.2.1,s.denAll _ _ h.2.2.1,h.2.2.2⟩
theorem WIn.nth {p:Addr} {L:List (List Int)} (h:WIn K H x y p xs n ws hs L) (hw:rZ ws hs L=true) {i:Nat} {u:V} (hu:xs[i]?=some u) :
  ∃ (c:Addr) (kk gg tt:Int),u=.ref c/\L[i]?=some [kk,gg,tt]/\SqT K H c [.int kk,.int gg,.int tt]/\gG ws hs [kk,gg,tt]=true:=by
 have hx:=aN h.2.2.1
 rw [Qb] at hx
 have hlt:i < L.length:=by have:=(Qd.mp hu).1; omega
 have el:L[i]?=some L[i]:=Qc hlt
 obtain ⟨c1,e1,e2⟩:=kN h.2.2.1 el
 rw [hu] at e1
 have hall:L.all (gG ws hs)=true:=by unfold rZ at hw; simp only [Jn] at hw; exact hw.2.1
 have hst:=Jt.mp hall _ (Xb hlt)
 obtain ⟨kk,gg,tt,e3⟩:=uG hst
 rw [e3] at e2 el hst
 exact ⟨c1,kk,gg,tt,Option.some.inj e1,el,e2,hst⟩
def aBs (K:Rc):Sp:=λvs H Q _=>∃ x y p xs n ws hs L,vs = [x,y,.ref p]/\WIn K H x y p xs n ws hs L/\rZ ws hs L=true/\∀ H',aD H H'->Q .non H'
theorem aFo:FnScope ["book", "deal", "some"] ["book", "deal", "some"] (aG vV):=⟨rfl,rfl,rfl,by decide +kernel,rfl,by decide +kernel,by decide +kernel⟩
theorem aD4 {fWy:Addr} {dWy dS:FuncData} (G:Fn K mg "need_way" vV ["book", "deal", "some"] f fd) (B:Bl mg) (R:Pr K mg fW fH fK fB fNB fD fND fL dW dH dK dB dNB dD dND dL) (GW:Fn K mg "is_way" aAm ["book", "deal", "some"] fWy dWy) (GS:Fn K mg "is_step" uA ["book", "deal", "step"] fS dS):FnOk P w K mg base CX0 8 f fd ["book", "deal", "some"] (aBs K):=by
 have OWy:FnOk P w K mg base CX0 7 fWy dWy ["book", "deal", "some"] (aFP K):=aGD GW B R GS
 refine G.fn.ok aFo (λvs H Q E h=>?_) (λcdv A outer s H vs Q E hr h=>?_)
 ·obtain ⟨x,y,p,xs,n,ws,hs,L,rfl,_⟩:=h
  rfl
 ·obtain ⟨x,y,p,xs,n,ws,hs,L,rfl,hi,hw,k⟩:=h
  refine ⟨_,aJ (cJ (eO (eC (bF GW OWy hr rfl (aA (pv 0) (aA (pv 1) (aA (pv 2) aC)))))) iN bI),?_⟩
  refine ⟨_,rfl,_,rfl,_,rfl,x,y,p,xs,n,ws,hs,L,rfl,hi.1,hi.2.1,hi.2.2.1,hi.2.2.2.1,hi.2.2.2.2,λH' s1=>⟨_,rfl,?_⟩⟩
  rw [hw]
  refine gX ?_
  exact k H' s1
def aD5 (K:Rc):Sp:=λvs H Q _=>∃ x y p xs n ws hs L,vs = [x,y,.ref p]/\WIn K H x y p xs n ws hs L/\rZ ws hs L=true/\∀ q H',aD H H'->H q=none->H' q=some (.tup ((mP hs L).map V.int))->Q (.ref q) H'
theorem sC:FnScope ["book", "deal", "some", "behind", "work", "giver", "taker"] ["book", "deal", "some"] (aG aBd):=⟨rfl,rfl,rfl,by decide +kernel,rfl,by decide +kernel,by decide +kernel⟩
theorem aFp {fN:Addr} {dN:FuncData} (G:Fn K mg "gone" aBd ["book", "deal", "some"] f fd) (B:Bl mg) (GNW:Fn K mg "need_way" vV ["book", "deal", "some"] fN dN) (ONW:FnOk P w K mg base CX0 8 fN dN ["book", "deal", "some"] (aBs K)):FnOk P w K mg base CX0 9 f fd ["book", "deal", "some"] (aD5 K):=by
 refine G.fn.ok sC (λvs H Q E h=>?_) (λcdv A outer s H vs Q E hr h=>?_)
 ·obtain ⟨x,y,p,xs,n,ws,hs,L,rfl,_⟩:=h
  rfl
 ·obtain ⟨x,y,p,xs,n,ws,hs,L,rfl,hi,hw,k⟩:=h
  have r8:Room 8 _:=hr
  refine ⟨_,(aE (gA (bF GNW ONW r8 rfl (aA (pv 0) (aA (pv 1) (aA (pv 2) aC)))))
  (aE (aS (i:=3) sC.nd rfl (Or.inl rfl) (bR uX rfl B.list vS (aA (pv 1) aC)))
  (aE (eF PassesOwn.never rfl (eZ (pv 2)) (fM rfl (aU (aK (i:=4) sC.nd rfl (Or.inl rfl)) (aU (aK (i:=5) sC.nd rfl (Or.inl rfl)) (aU (aK (i:=6) sC.nd rfl (Or.inl rfl)) cP))))
   (aJ (iA (pv 6) (qR (pv 3) (pv 4) lB))))
  (aJ (aX (bR bV rfl B.tuple cM (aA (pv 3) aC))))))),?_⟩
  refine ⟨_,rfl,_,rfl,_,rfl,x,y,p,xs,n,ws,hs,L,rfl,hi,hw,λH1 s1=>?_⟩
  have hi1:=hi.same s1
  obtain ⟨c0,rfl,hc0⟩:=aP.mp hi1.1.2.2.1
  have hxl:=aN hi.2.2.1
  rw [Qb] at hxl
  refine ⟨_,rfl,c0,_,rfl,.inr hc0,λbh hbh=>?_⟩
  have s2:=aD.new (o:=.lst (hs.map V.int)) hbh
  have e2:upd H1 bh (.lst (hs.map V.int)) bh=some (.lst (hs.map V.int)):=aB
  generalize upd H1 bh (.lst (hs.map V.int))=H2 at s2 e2 ⊢
  refine ⟨_,rfl,p,rfl,⟨_,(hi1.same s2).2.1⟩,jO (K:=K) (a:=p) (xs:=xs) (λi σ H3=>∃ v4 v5 v6,σ = [some x,some (.ref c0),some (.ref p),some (.ref bh),v4,v5,v6]/\aD H1 H3/\H3 bh=some (.lst ((mP hs (L.take i)).map V.int))) ⟨_,_,_,rfl,s2,e2⟩ (λi σ H3 _ ⟨_,_,_,_,s3,_⟩=>(hi1.same s3).2.1) ?_ ?_⟩
  ·rintro i u σ H3 hu ⟨v4,v5,v6,rfl,s3,e3⟩
   obtain ⟨c,kk,gg,tt,rfl,el,hc,hst⟩:=(hi1.same s3).nth hw hu
   obtain ⟨k0,k1,_⟩:=yR hst
   refine ⟨c,_,rfl,hc,rfl,_,_,rfl,_,_,rfl,_,_,rfl,rfl,?_⟩
   refine ⟨_,rfl,_,rfl,_,rfl,bh,_,kk,kk.toNat,rfl,rfl,e3,aGE k0 (by rw [Qb,aCu]; exact k1),?_⟩
   refine ⟨_,_,_,rfl,s3.wr hbh,?_⟩
   rw [aB,Jd,el]
   show some (HO.lst _)=some (HO.lst ((mP hs (L.take i++[[kk,gg,tt]])).map V.int))
   rw [aAA,List.map_set]
   rfl
  ·rintro σ H3 ⟨v4,v5,v6,rfl,s3,e3⟩
   rw [hxl,Jq (Qh _)] at e3
   refine ⟨_,rfl,bh,_,rfl,.inl ⟨SqL.of e3,λq hq=>k q _ ((s1.trans s3).trans (aD.new hq)) ((s1.trans s3).free hq) aB⟩⟩
end Ab
namespace Ab
def gJ (hs:List Int) (ss:List (Nat×Int×Int)):List Int:=ss.foldl (λh s=>h.set s.1 s.2.2) hs
theorem pJ:∀ (ss:List (Nat×Int×Int)) (hs:List Int),(gJ hs ss).length=hs.length
 | [],_=>rfl
 | s::r,hs=>by show (gJ (hs.set s.1 s.2.2) r).length=_; rw [pJ r,Xr]
theorem sD:∀ (hs:List Int) (w:Nat) (g t c:Int),hs[w]?=some g->(((hs.set w t).count c:Nat):Int)=((hs.count c:Nat):Int) - (if c=g then 1 else 0)+(if c=t then 1 else 0)
 | [],w,g,t,c,h=>by simp at h
 | a::r,0,g,t,c,h=>by
  have e:a=g:=by simpa using h
  subst e
  rw [List.set_cons_zero,Zc,Zc]
  by_cases h1:c=a <;> by_cases h2:c=t
  ·subst h1; subst h2; simp
  ·subst h1; have:(t==c)=false:=by simpa using λz=>h2 z.symm
   simp [h2,this]
  ·subst h2; have:(a==c)=false:=by simpa using λz=>h1 z.symm
   simp [h1,this]
  ·have e1:(a==c)=false:=by simpa using λz=>h1 z.symm
   have e2:(t==c)=false:=by simpa using λz=>h2 z.symm
   simp [h1,h2,e1,e2]
 | a::r,w+1,g,t,c,h=>by
  have ih:=sD r w g t c (by simpa using h)
  rw [List.set_cons_succ,Zc,Zc]
  omega
theorem yS {w:Nat} {g u:Int} (hg:hs[w]?=some g):∀ {h x:Int} {r:List (Nat×Int×Int)},eT ws hs h r x->(∀ s∈r,s.2.1≠g)->eT ws (hs.set w u) h r x
 | _,_,[],e,_=>e
 | h,_,s::r,⟨e1,⟨e2,e3⟩,e4⟩,hn=>by
  refine ⟨e1,⟨?_,e3⟩,yS hg e4 λs' hs'=>hn s' (Qk _ hs')⟩
  have hne:w≠s.1:=λz=>by
   subst z
   rw [hg] at e2
   exact hn s (Qj ..) (e1.trans (Option.some.inj e2).symm)
  rw [Yt hne]
  exact e2
theorem yT {h x:Int} (hp:eT ws hs h ss x):∀ s∈ss,s.2.1∈h::ss.map (·.2.2):=λs hs'=>by
 rw [<- nE hp]
 exact Jv _ (Qw.mpr ⟨s,hs',rfl⟩)
theorem sE:∀ (ss:List (Nat×Int×Int)) {hs:List Int} {h x:Int},eT ws hs h ss x->(h::ss.map (·.2.2)).Nodup->∀ c:Int,(((gJ hs ss).count c:Nat):Int)=((hs.count c:Nat):Int) - (if c=h then 1 else 0)+(if c=x then 1 else 0)
 | [],hs,h,x,hp,_,c=>by
  have e:h=x:=hp
  subst e
  show ((hs.count c:Nat):Int)=_
  omega
 | s::r,hs,h,x,⟨e1,e2,e3⟩,hn,c=>by
  rw [Qy,Xf] at hn
  have h1:=yS (u:=s.2.2) e2.1 e3 λs' hs' z=>hn.1 (by rw [<- z]; exact yT e3 s' hs')
  have ih:=sE r h1 hn.2 c
  have e:=sD hs s.1 h s.2.2 c e2.1
  show (((gJ (hs.set s.1 s.2.2) r).count c:Nat):Int)=_
  omega
theorem pK:∀ (ss:List (Nat×Int×Int)) {hs:List Int},(∀ s∈ss,∃ l,ws[s.1]?=some l/\s.2.2∈l)->(∀ (j:Nat) (h:Int) (l:List Int),hs[j]?=some h->ws[j]?=some l->h∈l)->∀ (j:Nat) (h:Int) (l:List Int),(gJ hs ss)[j]?=some h->ws[j]?=some l->h∈l
 | [],_,_,hd=>hd
 | s::r,hs,hl,hd=>pK r (λs' h'=>hl s' (Qk _ h')) λj h l e1 e2=>by
  obtain ⟨l',z1,z2⟩:=hl s (Qj ..)
  rw [Xz] at e1
  by_cases z:s.1=j
  ·subst z
   rw [if_pos rfl] at e1
   split at e1
   ·rw [z1] at e2
    rw [<- Option.some.inj e2,<- Option.some.inj e1]; exact z2
   ·cases e1
  ·rw [if_neg z] at e1
   exact hd j h l e1 e2
def Tri:Nat->Nat
 | 0=>0
 | k+1=>Tri k+k
def Sm (g:Nat->Nat):Nat->Nat
 | 0=>0
 | n+1=>Sm g n+g n
theorem aBt {g g':Nat->Nat}:∀ n:Nat,(∀ i,i < n->g' i=g i)->Sm g' n=Sm g n
 | 0,_=>rfl
 | n+1,h=>by show Sm g' n+g' n=Sm g n+g n; rw [aBt n λi hi=>h i (by omega),h n (by omega)]
theorem aAB {g g':Nat->Nat} {a:Nat}:∀ n:Nat,a < n->(∀ i,i < n->i≠a->g' i=g i)->Sm g' n+g a=Sm g n+g' a
 | 0,h,_=>by omega
 | n+1,h,hh=>by
  show Sm g' n+g' n+g a=Sm g n+g n+g' a
  by_cases e:a=n
  ·subst e
   rw [aBt a λi hi=>hh i (by omega) (by omega)]
   omega
  ·have ih:=aAB (g:=g) (g':=g') n (by omega) λi hi hn=>hh i (by omega) hn
   rw [hh n (by omega) (λz=>e z.symm)]
   omega
theorem aD6:∀ k:Nat,k<=12->Tri k<=12*k
 | 0,_=>Qh _
 | k+1,h=>by have:=aD6 k (by omega); show Tri k+k<=_; omega
theorem aFQ {g:Nat->Nat} {b:Nat} (h:∀ i,g i<=b):∀ n,Sm g n<=b*n
 | 0=>Jr _
 | n+1=>by have:=aFQ h n; have:=h n; show Sm g n+g n<=_; rw [Nat.mul_succ]; omega
def Phi (n:Nat) (hs:List Int):Nat:=Sm (λi=>Tri (hs.count (i:Int))) n
theorem aGH {n:Nat} (h6:n<=6) (h:hs.length<=12):Phi n hs<=864:=by
 have:=aFQ (g:=λi=>Tri (hs.count (i:Int))) (b:=144) (λi=>by
  have h1:hs.count (i:Int)<=hs.length:=Yu
  have h2:=aD6 _ (Je h1 h)
  show Tri (hs.count (i:Int))<=144
  omega) n
 unfold Phi
 omega
theorem aD7 (W:qC n ws hs ss) (ht:∀ g w t,jA ws hs g w t->0<=t/\t < n):Phi n.toNat (gJ hs ss) < Phi n.toNat hs:=by
 obtain ⟨h,x,hne,hP,hN,hh0,hh1,hRL,hge⟩:=W
 obtain ⟨s,hs'⟩:∃ s,ss[ss.length - 1]?=some s:=⟨_,Qc (by have:=Xl.mpr hne; omega)⟩
 have ex:=uJ hP s hs'
 have hx:=ht _ _ _ (mB hP _ s hs').1
 rw [ex] at hx
 have hc:=sE ss hP hN
 have hhx:h≠x:=λz=>by rw [z] at hge; omega
 have e1:=aAB (g:=λi=>Tri (hs.count (i:Int))) (g':=λi=>if i=h.toNat then Tri (hs.count h - 1) else Tri (hs.count (i:Int))) (a:=h.toNat) n.toNat (by omega) (λi _ z=>if_neg z)
 have e2:=aAB (g:=λi=>if i=h.toNat then Tri (hs.count h - 1) else Tri (hs.count (i:Int))) (g':=λi=>Tri ((gJ hs ss).count (i:Int))) (a:=x.toNat) n.toNat (by omega) (λi hi z=>by
  have hci:=hc (i:Int)
  by_cases zh:i=h.toNat
  ·have zi:(i:Int)=h:=by omega
   rw [if_pos zh]
   rw [zi,if_pos rfl,if_neg hhx] at hci
   rw [zi]
   show Tri ((gJ hs ss).count h)=_
   congr 1
   omega
  ·rw [if_neg zh]
   rw [if_neg (show ¬ (i:Int)=h by omega),if_neg (show ¬ (i:Int)=x by omega)] at hci
   show Tri ((gJ hs ss).count (i:Int))=_
   congr 1
   omega)
 have ch:((h.toNat:Nat):Int)=h:=by omega
 have cx:((x.toNat:Nat):Int)=x:=by omega
 simp only [if_pos,ch,cx,if_neg (show ¬ x.toNat=h.toNat by omega)] at e1 e2
 have hcx:=hc x
 rw [if_neg (λz=>hhx z.symm),if_pos rfl] at hcx
 have hcx':(gJ hs ss).count x=hs.count x+1:=by omega
 rw [hcx'] at e2
 have t1:Tri (hs.count x+1)=Tri (hs.count x)+hs.count x:=rfl
 have t2:Tri (hs.count h)=Tri (hs.count h - 1)+(hs.count h - 1):=by
  have:hs.count h=(hs.count h - 1)+1:=by omega
  conv=>lhs; rw [this]
  rfl
 unfold Phi
 omega
def oE (n:Int) (ws:List (List Int)):List Int->List (List (Nat×Int×Int))->List Int->Prop
 | hs,[],he=>hs=he
 | hs,ss::r,he=>qC n ws hs ss/\oE n ws (gJ hs ss) r he
theorem oE.snoc:∀ {hs:List Int} {W:List (List (Nat×Int×Int))} {hc:List Int} {ss:List (Nat×Int×Int)},oE n ws hs W hc->qC n ws hc ss->oE n ws hs (W++[ss]) (gJ hc ss)
 | _,[],_,_,e,w=>by cases e; exact ⟨w,rfl⟩
 | _,_::_,_,_,⟨a,b⟩,w=>⟨a,oE.snoc b w⟩
end Ab
namespace Ab
open PySem L2
theorem aBu:∀ (ss:List (Nat×Int×Int)) (hs:List Int),mP hs (ss.map kW)=gJ hs ss
 | [],_=>rfl
 | s::r,hs=>by
  have e:((kW s).getD 0 0).toNat=s.1:=Jj _
  show mP (hs.set ((kW s).getD 0 0).toNat (rY (kW s))) (r.map kW)=gJ (hs.set s.1 s.2.2) r
  rw [e,aBu r]
  rfl
theorem aFq {h x:Int} (hne:ss≠[]) (hP:eT ws hs h ss x) (hN:(h::ss.map (·.2.2)).Nodup):rZ ws hs (ss.map kW)=true:=by
 have hp:bT (ss.map kW)=h::ss.map (·.2.2):=by
  cases ss with
  | nil=>exact absurd rfl hne
  | cons s r =>
   show kM (kW s)::((s::r).map kW).map rY=_
   rw [Jo,show kM (kW s)=h from hP.1]
   rfl
 unfold rZ qN
 rw [hp,decide_eq_true hN,Bool.and_true,Jn,Jn]
 refine ⟨?_,?_,?_⟩
 ·cases ss with
  | nil=>exact absurd rfl hne
  | cons _ _=>rfl
 ·rw [Jt]
  intro st hst
  obtain ⟨s,hs',rfl⟩:=Qw.mp hst
  obtain ⟨i,hi⟩:=Jb.mp hs'
  obtain ⟨⟨e1,l,e2,e3,e4⟩,_⟩:=mB hP i s hi
  have hlt:=(Qd.mp e1).1
  show (decide (0<=(s.1:Int)) && (decide ((s.1:Int) < hs.length) && (hs[(s.1:Int).toNat]?==some s.2.1 && (!decide (s.2.2=s.2.1) && decide (s.2.2∈ws.getD (s.1:Int).toNat [])))))=true
  rw [Jj,e1,Qu,e2,decide_eq_true (show (0:Int)<=s.1 by omega),decide_eq_true (show (s.1:Int) < hs.length by omega),decide_eq_false e4,decide_eq_true (show s.2.2∈(some l).getD [] from e3)]
  simp
 ·rw [<- nE hP,Jt]
  intro p hp'
  obtain ⟨i,hi⟩:=Jb.mp hp'
  rw [Jl] at hi
  obtain ⟨h1,h2⟩:=hi
  rw [Qe] at h1
  cases q:ss[i]? with
  | none=>rw [q] at h1; cases h1
  | some s =>
   rw [q] at h1
   have hlt:=(Qd.mp q).1
   rw [Qt (by rw [Qb]; exact hlt),Qe,q] at h2
   rw [<- Option.some.inj h1,<- Option.some.inj h2]
   exact beq_self_eq_true _
structure WaysAt (H:Hp) (qs:List Addr) (Ws:List (List (Nat×Int×Int))):Prop where
 len:qs.length=Ws.length
 at_:∀ (i:Nat) q ss,qs[i]?=some q->Ws[i]?=some ss->∃ ps:List Addr,H q=some (.lst (ps.map V.ref))/\StepsAt H ps ss
theorem WaysAt.same (h:WaysAt H qs Ws) (s:aD H H'):WaysAt H' qs Ws:=⟨h.len,λi q ss a b=>let ⟨ps,h1,h2⟩:=h.at_ i q ss a b; ⟨ps,s _ _ h1,h2.tp (Tp.of s)⟩⟩
theorem Tp.but {t:Addr} (b:But t H H') (ht:H t=some (.lst zs)):Tp H H':=λp xs h=>b p _ (λz=>by rw [z,ht] at h; cases h) h
theorem WaysAt.but {t:Addr} (h:WaysAt H qs Ws) (b:But t H H') (ht:H t=some (.lst zs)) (hn:∀ q∈qs,q≠t):WaysAt H' qs Ws:=⟨h.len,λi q ss a e=>let ⟨ps,h1,h2⟩:=h.at_ i q ss a e; ⟨ps,b _ _ (hn q (Qi a)) h1,h2.tp (Tp.but b ht)⟩⟩
theorem WaysAt.snoc {q:Addr} {ps:List Addr} (h:WaysAt H qs Ws) (h1:H q=some (.lst (ps.map V.ref))) (h2:StepsAt H ps ss):WaysAt H (qs++[q]) (Ws++[ss]):=by
 refine ⟨by rw [Qq,Qq,h.len]; rfl,λi q' ss' a b=>?_⟩
 by_cases hi:i < qs.length
 ·rw [Qt hi] at a
  rw [Qt (by rw [<- h.len]; exact hi)] at b
  exact h.at_ i q' ss' a b
 ·rw [Ji (by omega)] at a
  rw [Ji (by rw [<- h.len]; omega)] at b
  have hlt:=(Qd.mp a).1
  have e0:i - qs.length=0:=by simp at hlt; omega
  rw [e0] at a
  rw [<- h.len,e0] at b
  have ea:q=q':=by simpa using a
  have eb:ss=ss':=by simpa using b
  subst ea; subst eb
  exact ⟨ps,h1,h2⟩
def aGI (n:Int) (ws:List (List Int)) (hs:List Int) (H':Hp) (p:Addr):Prop :=
 ∃ wl dl qs Ws he lv,H' p=some (.tup [.ref wl,.ref dl])/\H' wl=some (.lst (qs.map V.ref))/\WaysAt H' qs Ws/\Ws.length<=864/\H' dl=some (.tup (he.map V.int))/\oE n ws hs Ws he/\eJ n ws he lv
def kQ (K:Rc) (Pt:Addr):Sp:=λvs H Q _=>∃ x y n ws hs,vs = [x,y]/\eR K H x y n ws hs/\H Pt=some (.tab oC)/\∀ p H',aD H H'->aGI n ws hs H' p->Q (.ref p) H'
theorem eR.but {t:Addr} (g:eR K H x y n ws hs) (b:But t H H') (ht:H t=some (.lst zs)):eR K H' x y n ws hs:=⟨b.den ht _ _ (pZ n ws) g.1,g.2.1,b.den ht _ _ (yL hs) g.2.2.1,g.2.2.2⟩
theorem eR.edge (g:eR K H x y n ws hs):∀ a w t,jA ws hs a w t->0<=t/\t < n:=λa w t e=>by
 obtain ⟨_,_,hw12,hws⟩:=bB g.2.1
 obtain ⟨_,l,h1,h2,_⟩:=e
 exact (bL (hws l (Qi h1))).2.1 t h2
theorem eR.short (g:eR K H x y n ws hs) (W:qC n ws hs ss):ss.length<=12:=by
 obtain ⟨hl12,hn1,hn6⟩:=g.len
 obtain ⟨h,xx,hne,hP,hN,hh0,hh1,hRL,hge⟩:=W
 have:=lZ n.toNat (h::ss.map (·.2.2)) hN λz hz=>by
  rcases Qn.mp hz with rfl | hz
  ·omega
  ·obtain ⟨s',hs',rfl⟩:=Qw.mp hz
   obtain ⟨i,hi⟩:=Jb.mp hs'
   have:=g.edge _ _ _ (mB hP i s' hi).1
   omega
 rw [Ja,Qb] at this
 omega
theorem eR.gone (g:eR K H x y n ws hs) (W:qC n ws hs ss) {d:Addr} (hd:SqT K H d ((gJ hs ss).map V.int)):eR K H x (.ref d) n ws (gJ hs ss):=by
 obtain ⟨hdl,hdg⟩:=aR g.2.2.2
 obtain ⟨h,xx,hne,hP,_⟩:=W
 refine ⟨g.1,g.2.1,aP.mpr ⟨d,rfl,hd⟩,fJ (by rw [pJ]; exact hdl) (pK ss (λs hs'=>?_) hdg)⟩
 obtain ⟨i,hi⟩:=Jb.mp hs'
 obtain ⟨⟨_,l,e2,e3,_⟩,_⟩:=mB hP i s hi
 exact ⟨l,e2,e3⟩
theorem fQ:FnScope ["book", "deal", "ways", "word", "shown"] ["book", "deal"] (aG iP):=⟨rfl,rfl,rfl,by decide +kernel,rfl,by decide +kernel,by decide +kernel⟩
theorem yU {fLw fG:Addr} {dLw dG:FuncData} (G:Fn K mg "bettered" iP ["book", "deal"] f fd) (B:Bl mg) (GLw:Fn K mg "levels_or_way" aDN ["book", "deal"] fLw dLw) (OLw:FnOk P w K mg base CX0 8 fLw dLw ["book", "deal"] (aBq K Pt)) (GG:Fn K mg "gone" aBd ["book", "deal", "some"] fG dG) (OG:FnOk P w K mg base CX0 9 fG dG ["book", "deal", "some"] (aD5 K)):FnOk P w K mg base CX0 10 f fd ["book", "deal"] (kQ K Pt):=by
 refine G.fn.ok fQ (λvs H Q E h=>?_) (λcdv A outer s H vs Q E hr h=>?_)
 ·obtain ⟨x,y,n,ws,hs,rfl,_⟩:=h
  rfl
 ·obtain ⟨x,y,n,ws,hs,rfl,g,hT,k⟩:=h
  have r9:Room 9 _:=hr
  have r8:Room 8 _:=hr.mono (by decide)
  refine ⟨_,(aE (aS (i:=2) fQ.nd rfl (Or.inl rfl) (eP aC))
  (aE (iA (bF GLw OLw r8 rfl (aA (pv 0) (aA (pv 1) aC))) (fM rfl (aU (aK (i:=3) fQ.nd rfl (Or.inl rfl)) (aU (aK (i:=4) fQ.nd rfl (Or.inl rfl)) cP))))
  (aE (qS PassesOwn.never (bE gC (pv 3) zL (bD _))
   (aE (gA (nH Rw Ry Rz iO (pv 2) (aA (pv 4) aC)))
  (aE (aS (i:=1) fQ.nd rfl (Or.inl rfl) (bF GG OG r9 rfl (aA (pv 0) (aA (pv 1) (aA (pv 4) aC)))))
  (aJ (iA (bF GLw OLw r8 rfl (aA (pv 0) (aA (pv 1) aC))) (fM rfl (aU (aK (i:=3) fQ.nd rfl (Or.inl rfl)) (aU (aK (i:=4) fQ.nd rfl (Or.inl rfl)) cP))))))))
  (aJ (aX (cH (aA (pv 2) (aA (bR bV rfl B.tuple cM (aA (cB (own:=["hand"]) (fr:=[]) (frn:=[]) (bG (aG iP) ["book", "deal", "ways", "word", "shown"] rfl rfl (by decide +kernel)) rfl (gB (pv 1))
    (λ_ _ _ _=>(aK (i:=0) (show (["hand"]:List Str).Nodup by decide +kernel) rfl (Or.inl rfl))) (λ_ _ _ _=>dO)
    (λ_ _ _ _=>(pv 0))) aC)) aC)))))))),?_⟩
  obtain ⟨hl12,hn1,hn6⟩:=g.len
  obtain ⟨c0,rfl,_⟩:=aP.mp g.2.2.1
  refine ⟨cZ (Jr _),λwl hwl=>?_⟩
  have s0:=aD.new (o:=.lst []) hwl
  have e0:upd H wl (.lst []) wl=some (.lst []):=aB
  generalize upd H wl (.lst [])=H0 at s0 e0 ⊢
  refine ⟨_,rfl,_,rfl,x,.ref c0,n,ws,hs,rfl,g.same s0,s0 _ _ hT,λp1 H1 s1 TD=>?_⟩
  obtain ⟨W,hW⟩:∃ W:Nat->St->Hp->Prop,W=λm σ H1=>∃ (d q:Addr) (hc:List Int) (Ws:List (List (Nat×Int×Int))) (qs:List Addr) (word:Str),σ = [some x,some (.ref d),some (.ref wl),some (.str word),some (.ref q)]/\aD H H1/\eR K H1 x (.ref d) n ws hc/\H1 wl=some (.lst (qs.map V.ref))/\WaysAt H1 qs Ws/\(∀ z∈qs,z≠wl)/\oE n ws hs Ws hc/\Ws.length+Phi n.toNat hc<=864/\m=Phi n.toNat hc /\
    ((word = "levels" /\ ∃ lv,eJ n ws hc lv)∨(word = "way" /\ q≠wl/\∃ ps ss,H1 q=some (.lst (ps.map V.ref))/\StepsAt H1 ps ss/\qC n ws hc ss)):=⟨_,rfl⟩
  -- what is told is taken up
  have take:∀ (d p1:Addr) (hc:List Int) (Ws:List (List (Nat×Int×Int))) (qs:List Addr) (Ha Hb:Hp),aD H Ha->aD Ha Hb->eR K Ha x (.ref d) n ws hc->Ha wl=some (.lst (qs.map V.ref))->WaysAt Ha qs Ws->(∀ z∈qs,z≠wl)->oE n ws hs Ws hc->Ws.length+Phi n.toNat hc<=864->aHz n ws hc Ha Hb p1 ->
    ∃ word q,Hb p1=some (.tup [.str word,.ref q])/\W (Phi n.toNat hc) [some x,some (.ref d),some (.ref wl),some (.str word),some (.ref q)] Hb:=by
   intro d p1 hc Ws qs Ha Hb sa sb ga ea wa na ca la TD
   subst hW
   rcases TD with ⟨q,lv,h1,_,h2⟩ | ⟨q,ps,ss,h1,h2,h3,h4,h5⟩
   ·exact ⟨_,q,h1,d,q,hc,Ws,qs,_,rfl,sa.trans sb,ga.same sb,sb _ _ ea,wa.same sb,na,ca,la,rfl,.inl ⟨rfl,lv,h2⟩⟩
   ·exact ⟨_,q,h1,d,q,hc,Ws,qs,_,rfl,sa.trans sb,ga.same sb,sb _ _ ea,wa.same sb,na,ca,la,rfl,.inr ⟨rfl,(λz=>by rw [z,ea] at h2; cases h2),ps,ss,h3,h4,h5⟩⟩
  obtain ⟨word,q,h1,w1⟩:=take c0 p1 hs [] [] H0 H1 s0 s1 (g.same s0) e0 ⟨rfl,λi q ss a=>by simp at a⟩ (λ_ h=>(Qs h).elim) rfl (by have:=aGH (n:=n.toNat) (hs:=hs) (by omega) hl12; simpa using this) TD
  refine ⟨p1,_,rfl,SqT.of h1,rfl,_,_,rfl,_,_,rfl,rfl,?_⟩
  refine ⟨W,⟨_,w1⟩,?_⟩
  intro m σ H2 w2
  have w2':=w2
  rw [hW] at w2'
  obtain ⟨d,q,hc,Ws,qs,word,rfl,s2,g2,e2,wa2,na2,ch2,le2,hm,alt⟩:=w2'
  refine ⟨_,rfl,rfl,_,rfl,?_⟩
  rcases alt with ⟨rfl,lv,hlv⟩ | ⟨rfl,nq,ps,ss,hq,hS,hWy⟩
  ·rw [decide_eq_false (show ¬ V.str "levels" = V.str "way" by intro z; injection z with z; revert z; decide)]
   refine gX ?_
   obtain ⟨c1,ec,hc1⟩:=aP.mp g2.2.2.1
   obtain rfl:d=c1:=by injection ec
   obtain ⟨hlc,_,_⟩:=g2.len
   refine ⟨_,rfl,_,rfl,d,rfl,⟨_,hc1⟩,xK (K:=K) (a:=d) (xs:=hc.map V.int) (vs:=hc.map V.int) (λσ=>∃ v,σ = [v]) (by rw [Qb]; omega) rfl hc1 ⟨none,rfl⟩ ?_ ?_⟩
   ·rintro j xv v σ H3 hx hv ⟨v',rfl⟩ s3 Q' hQ'
    rw [hx] at hv
    obtain rfl:=Option.some.inj hv
    exact ⟨_,rfl,hQ' _ _ ⟨_,rfl⟩ (aD.refl _)⟩
   ·rintro H3 s3 z hz
    have s4:=aD.new (o:=.lst (hc.map V.int)) hz
    refine ⟨z,_,rfl,.inl ⟨SqL.of aB,λdl hdl=>?_⟩⟩
    have s5:=aD.new (o:=.tup (hc.map V.int)) hdl
    refine ⟨sz2 _ _,λp hp=>?_⟩
    have s6:=aD.new (o:=.tup [.ref wl,.ref dl]) hp
    have s36:=((s3.trans s4).trans s5).trans s6
    exact k p _ (s2.trans s36) ⟨wl,dl,qs,Ws,hc,lv,aB,s36 _ _ e2,wa2.same s36,by omega,s6 _ _ aB,ch2,hlv⟩
  ·rw [decide_eq_true rfl]
   refine fZ ?_
   refine ⟨λσ' H'=>∃ m',m' < m/\W m' σ' H',λ_ _ z=>z,?_⟩
   have hql:(qs.map V.ref).length < sizeLine:=by rw [Qb,wa2.len]; exact Yf (show Ws.length<=864 by omega) (by rw [Rf]; decide)
   refine ⟨_,rfl,.inl ⟨rfl,_,SqL.of e2⟩,_,rfl,wl,_,_,rfl,rfl,e2,hql,?_⟩
   have b3:But wl H2 (upd H2 wl (.lst (qs.map V.ref++[.ref q]))):=But.at
   have e3:upd H2 wl (.lst (qs.map V.ref++[.ref q])) wl=some (.lst ((qs++[q]).map V.ref)):=by rw [aB,Qp]; rfl
   have s3:aD H (upd H2 wl (.lst (qs.map V.ref++[.ref q]))):=s2.wr hwl
   have g3:=g2.but b3 e2
   have hq3:=b3 _ _ nq hq
   have hS3:=hS.tp (Tp.but b3 e2)
   have wa3:=(wa2.but b3 e2 na2).snoc hq3 hS3
   generalize upd H2 wl (.lst (qs.map V.ref++[.ref q]))=H3 at b3 e3 s3 g3 hq3 hS3 wa3 ⊢
   obtain ⟨h,xx,hne,hP,hN,hrest⟩:=id hWy
   have hsl:=g2.short hWy
   refine ⟨_,rfl,_,rfl,_,rfl,x,.ref d,q,ps.map V.ref,n,ws,hc,ss.map kW,rfl,⟨g3,SqL.of hq3,hS3.den,by rw [Qb]; omega,λl hl=>?_⟩,aFq hne hP hN,λd' H4 s4 hd' e4=>?_⟩
   ·obtain ⟨s',_,rfl⟩:=Qw.mp hl
    exact (show 3<=1000 by decide)
   rw [aBu] at e4
   have g4:=(g3.same s4).gone hWy (SqT.of e4)
   have hless:=aD7 hWy g2.edge
   refine ⟨_,rfl,_,rfl,x,.ref d',n,ws,gJ hc ss,rfl,g4,s4 _ _ (s3 _ _ hT),λp5 H5 s5 TD5=>?_⟩
   obtain ⟨word,q',h5,w5⟩:=take d' p5 (gJ hc ss) (Ws++[ss]) (qs++[q]) H4 H5 (s3.trans s4) s5 g4 (s4 _ _ e3) (wa3.same s4) (λz hz=>by
    rcases Jh.mp hz with hz | hz
    ·exact na2 z hz
    ·rw [Qo.mp hz]; exact nq) (ch2.snoc hWy) (by rw [Qq]; show Ws.length+1+_<=864; omega) TD5
   refine ⟨p5,_,rfl,SqT.of h5,rfl,_,_,rfl,_,_,rfl,rfl,?_⟩
   exact ⟨_,by omega,w5⟩
def eM (a b:List Int):Bool:=(List.range (a.length+1)).all λk=>decide (aQ (a.take k)<=aQ (b.take k))
theorem yV {a b:List Int} (h:∀ k,k<=a.length->aQ (a.take k)<=aQ (b.take k)):eM a b=true:=by
 unfold eM
 rw [Jt]
 intro k hk
 have:=Jw.mp hk
 exact decide_eq_true (h k (by omega))
theorem uK (hK:X.K=K) (hc:X.calm=true):dM X (.builtin "sum") (λxs H Q=>∃ (p:Addr) (ns:List Int),xs = [.ref p]/\SqL K H p (ns.map V.int)/\(∀ n∈ns,0<=n/\n < 1000000)/\ns.length<=1000000/\Q (.int (aQ ns)) H):=by subst hK; exact aC2 hc
theorem yW (hK:X.K=K):SlR X (aG9 K):=by subst hK; exact aEG
def uL (K:Rc):Sp:=λvs H Q _=>∃ x y n ws hs,vs = [x,y]/\eR K H x y n ws hs/\∀ p H' (ms:List Int),aD H H'->H p=none->H' p=some (.lst (ms.map V.int))->ms.Perm (aF n hs)->ms.Pairwise (·≥·)->Q (.ref p) H'
theorem aCv:FnScope ["book", "deal"] ["book", "deal"] (aG nR):=⟨rfl,rfl,rfl,by decide +kernel,rfl,by decide +kernel,by decide +kernel⟩
theorem aAC (G:Fn K mg "falling" nR ["book", "deal"] f fd) (B:Bl mg) (R:Pr K mg fW fH fK fB fNB fD fND fL dW dH dK dB dNB dD dND dL):FnOk P w K mg base CX0 8 f fd ["book", "deal"] (uL K):=by
 have OL:FnOk P w K mg base CX0 7 fL dL ["book", "deal"] (wB K):=yK B R
 refine G.fn.ok aCv (λvs H Q E h=>?_) (λcdv A outer s H vs Q E hr h=>?_)
 ·obtain ⟨x,y,n,ws,hs,rfl,_⟩:=h
  rfl
 ·obtain ⟨x,y,n,ws,hs,rfl,g,k⟩:=h
  refine ⟨_,aJ (aX (jJ rfl B.sorted (bF R.L OL hr rfl (aA (pv 0) (aA (pv 1) aC))))),?_⟩
  obtain ⟨hl,hn1,hn6⟩:=g.len
  refine ⟨_,rfl,_,rfl,x,y,n,ws,hs,rfl,g,λp H1 s1 hp=>?_⟩
  refine ⟨p,aF n hs,rfl,.inr (SqT.of hp),by rw [eA]; omega,λq ms hq hpm hpw=>?_⟩
  exact k q _ ms (s1.trans (aD.new hq)) (s1.free hq) aB hpm hpw
def yX (K:Rc):Sp:=λvs H Q _=>∃ (p1 p2:Addr) (a b:List Int),vs = [.ref p1,.ref p2]/\SqL K H p1 (a.map V.int)/\SqL K H p2 (b.map V.int)/\a.length<=12/\b.length<=12/\(∀ m∈a,0<=m/\m < 1000000)/\(∀ m∈b,0<=m/\m < 1000000) /\
 ∀ H' ms ys,aD H H'->ms.Perm a->ms.Pairwise (·≥·)->ys.Perm b->ys.Pairwise (·≥·)->Q (.bl (eM ms ys)) H'
theorem sF:FnScope ["ones", "others", "one", "other"] ["ones", "others"] (aG nU):=⟨rfl,rfl,rfl,by decide +kernel,rfl,by decide +kernel,by decide +kernel⟩
theorem aCw (G:Fn K mg "_law_b_no_less" nU ["ones", "others"] f fd) (B:Bl mg):FnOk P w K mg base CX0 1 f fd ["ones", "others"] (yX K):=by
 refine G.fn.ok sF (λvs H Q E h=>?_) (λcdv A outer s H vs Q E hr h=>?_)
 ·obtain ⟨p1,p2,a,b,rfl,_⟩:=h
  rfl
 ·obtain ⟨p1,p2,a,b,rfl,h1,h2,l1,l2,b1,b2,k⟩:=h
  refine ⟨_,aE (aS (i:=2) sF.nd rfl (Or.inr rfl) (jJ rfl B.sorted (pv 0)))
   (aE (aS (i:=3) sF.nd rfl (Or.inr rfl) (jJ rfl B.sorted (pv 1)))
   (aJ (aX (aM (gY rfl) rfl B.all pY (aA
    (cB (own:=["k"]) (fr:=[2,3]) (frn:=["one", "other"]) (bG (aG nU) ["ones", "others", "one", "other"] rfl rfl (by decide +kernel)) rfl (dP rfl B.range (aA (bH cV (aM aY rfl B.len eV (aA (pv 2) aC)) aI) aC))
     (λ_ _ _ _=>aK (i:=0) (show (["k", "one", "other"]:List Str).Nodup by decide +kernel) rfl (Or.inl rfl)) (λ_ _ _ _=>dO)
     (λ_ _ _ _=>fI qT (aM (uK (K:=K) rfl rfl) rfl B.sum aDL (aA (eW (yW (K:=K) rfl) (pv 1) gR (gS (pv 0))) aC)) (aM (uK (K:=K) rfl rfl) rfl B.sum aDL (aA (eW (yW (K:=K) rfl) (pv 2) gR (gS (pv 0))) aC)) (bD _))) aC))))),?_⟩
  refine ⟨_,rfl,p1,a,rfl,.inl h1,by omega,λq1 ms hq1 pm1 pw1=>?_⟩
  have s1:=aD.new (o:=.lst (ms.map V.int)) hq1
  refine ⟨_,rfl,p2,b,rfl,.inl (s1.seqL h2),by omega,λq2 ys hq2 pm2 pw2=>?_⟩
  have s2:=s1.trans (aD.new (o:=.lst (ys.map V.int)) hq2)
  have hm:upd (upd H q1 (.lst (ms.map V.int))) q2 (.lst (ys.map V.int)) q1=some (.lst (ms.map V.int)):=aD.new hq2 _ _ aB
  have hy:upd (upd H q1 (.lst (ms.map V.int))) q2 (.lst (ys.map V.int)) q2=some (.lst (ys.map V.int)):=aB
  generalize upd (upd H q1 (.lst (ms.map V.int))) q2 (.lst (ys.map V.int))=H2 at s2 hm hy ⊢
  have lm:=pm1.length_eq
  have ly:=pm2.length_eq
  have bm:∀ j,∀ m∈ms.take j,0<=m/\m < 1000000:=λj m hm=>b1 m (pm1.mem_iff.mp (Xh hm))
  have by':∀ j,∀ m∈ys.take j,0<=m/\m < 1000000:=λj m hm=>b2 m (pm2.mem_iff.mp (Xh hm))
  refine ⟨_,rfl,q1,_,rfl,.inl (SqL.of hm),_,_,rfl,rfl,((ms.length+1:Nat):Int),by rw [Qb]; rfl,by omega,by omega,dZ (lo:=0) (n:=ms.length+1) (λσ=>∃ v,σ = [v,some (.ref q1),some (.ref q2)]) (λi zs H3=>aD H2 H3/\zs=(((List.range (ms.length+1)).take i).map λj=>decide (aQ (ms.take j)<=aQ (ys.take j))).map V.bl) ?_ ⟨none,rfl⟩ ⟨aD.refl _,rfl⟩ ?_ ?_ ?_⟩
  ·exact cZ (by omega)
  ·rintro i zs H3 ⟨_,rfl⟩
   rw [Qb,Qb,Qv]; omega
  ·rintro i zs σ H3 hi ⟨v,rfl⟩ ⟨s3,rfl⟩ hz
   refine cI ?_
   refine ⟨_,rfl,_,rfl,_,rfl,q1,_,rfl,s3.seqL (SqL.of hm),λr1 hr1=>⟨r1,ms.take i,rfl,SqL.of ?_,bm i,by rw [Qv]; omega,?_⟩⟩
   ·rw [aB,Zd,kJ,Zx]
   have s4:=s3.trans (aD.new (o:=.lst (mV (ms.map V.int) none (some (0+(i:Int))))) hr1)
   refine ⟨_,rfl,_,rfl,_,rfl,q2,_,rfl,s4.seqL (SqL.of hy),λr2 hr2=>⟨r2,ys.take i,rfl,SqL.of ?_,by' i,by rw [Qv]; omega,?_⟩⟩
   ·rw [aB,Zd,kJ,Zx]
   refine ⟨_,_,rfl,rfl,hz,⟨_,rfl⟩,s4.trans (aD.new hr2),?_⟩
   rw [Jd,Xe hi]
   simp
  ·rintro zs H3 ⟨s3,rfl⟩ p hp
   refine ⟨p,_,rfl,SqL.of aB,?_⟩
   have e:(((List.range (ms.length+1)).take (ms.length+1)).map λj=>decide (aQ (ms.take j)<=aQ (ys.take j))).all id=eM ms ys:=by
    rw [Jq (by rw [Js]; exact Qh _),Ye]
    rfl
   rw [e]
   exact k _ ms ys (s2.trans (s3.trans (aD.new hp))) pm1 pw1 pm2 pw2
theorem iJ:∀ (a b:List Int),aQ (a++b)=aQ a+aQ b
 | [],b=>by rw [Zw,show aQ ([]:List Int)=0 from rfl,Zd]
 | x::a,b=>by
  show x+aQ (a++b)=x+aQ a+aQ b
  rw [iJ a b]; omega
theorem aAD {a b:List Int} (h:a.Perm b):aQ a=aQ b:=by
 induction h with
 | nil=>rfl
 | cons x _ ih=>exact congrArg (x + ·) ih
 | swap x y l=>show y+(x+aQ l)=x+(y+aQ l); omega
 | trans _ _ h1 h2=>exact h1.trans h2
theorem lO {f g:α->Int}:∀ {l:List α},(∀ x∈l,f x<=g x)->aQ (l.map f)<=aQ (l.map g)
 | [],_=>Xd _
 | x::l,h=>by
  show f x+aQ (l.map f)<=g x+aQ (l.map g)
  have h1:=h x (Qj ..)
  have h2:=lO (l:=l) (f:=f) (g:=g) λy hy=>h y (Qk _ hy)
  omega
theorem dX {f g:α->Int} {l:List α} (h:∀ x∈l,f x=g x):aQ (l.map f)=aQ (l.map g):=by
 rw [Xk h]
theorem iS (f g:α->Int):∀ (l:List α),aQ (l.map λx=>f x+g x)=aQ (l.map f)+aQ (l.map g)
 | []=>rfl
 | x::l=>by
  show f x+g x+aQ (l.map λx=>f x+g x)=f x+aQ (l.map f)+(g x+aQ (l.map g))
  rw [iS f g l]; omega
theorem gO {f:α->Int}:∀ {l:List α},(∀ x∈l,f x=0)->aQ (l.map f)=0
 | [],_=>rfl
 | x::l,h=>by
  show f x+aQ (l.map f)=0
  rw [h x (Qj ..),gO λy hy=>h y (Qk _ hy)]; rfl
def ex (t:Int) (l:List Int):Int:=aQ (l.map λx=>max (x - t) 0)
theorem uM (t:Int):∀ l:List Int,0<=ex t l
 | []=>Xd _
 | x::l=>by
  show 0<=max (x - t) 0+ex t l
  have:=uM t l
  omega
theorem mC {t:Int} {a b:List Int} (h:a.Perm b):ex t a=ex t b:=aAD (h.map _)
theorem yY (t:Int) (l:List Int) (k:Nat):ex t l=ex t (l.take k)+ex t (l.drop k):=by
 unfold ex
 rw [<- iJ,<- Qp,Zf]
theorem aD8 (t:Int):∀ l:List Int,aQ l<=l.length*t+ex t l
 | []=>by show (0:Int)<=_; rw [Yh]; show (0:Int)<=0*t+0; omega
 | x::l=>by
  have h:=aD8 t l
  show x+aQ l<=((l.length+1:Nat):Int)*t+(max (x - t) 0+ex t l)
  have e:((l.length+1:Nat):Int)*t=(l.length:Int)*t+t:=by rw [Yg,Qag]; simp
  rw [e]
  generalize (l.length:Int)*t=z at h
  omega
theorem aD9 {t:Int}:∀ {l:List Int},(∀ x∈l,t<=x)->l.length*t+ex t l=aQ l
 | [],_=>by show (0:Int)*t+0=0; omega
 | x::l,h=>by
  have h1:=aD9 (t:=t) (l:=l) λy hy=>h y (Qk _ hy)
  have h2:=h x (Qj ..)
  show ((l.length+1:Nat):Int)*t+(max (x - t) 0+ex t l)=x+aQ l
  have e:((l.length+1:Nat):Int)*t=(l.length:Int)*t+t:=by rw [Yg,Qag]; simp
  rw [e]
  generalize (l.length:Int)*t=z at h1
  omega
theorem aFr {t:Int} (h:∀ x∈l,x<=t):ex t l=0:=gO λx hx=>by have:=h x hx; omega
theorem aAE {a b ys:List Int} (hl:a.length=b.length) (h:∀ t,ex t a<=ex t b) (hm:ms.Perm a) (hy:ys.Perm b) (sy:ys.Pairwise (·≥·)) (k:Nat) (hk:k<=ms.length):aQ (ms.take k)<=aQ (ys.take k):=by
 cases k with
 | zero=>rw [Yn,Yn]; exact Xd _
 | succ k =>
  have hyl:ys.length=ms.length:=by rw [hy.length_eq,hm.length_eq,hl]
  have hlt:k < ys.length:=by omega
  have hd:=Zf (k+1) ys
  have hall:∀ i j,i<=j->∀ x y,ys[i]?=some x->ys[j]?=some y->y<=x:=λi j hij x y ea eb=>by
   rcases Yz i j with h | h
   ·obtain ⟨hi,rfl⟩:=Qd.mp ea
    obtain ⟨hj,rfl⟩:=Qd.mp eb
    exact Xv.mp sy i j hi hj h
   ·have:=Nat.le_antisymm hij h
    subst this
    rw [ea] at eb
    rw [Option.some.inj eb]; exact Xd _
  have et:ys[k]?=some ys[k]:=Qc hlt
  generalize ys[k]=t at et
  have h1:∀ x∈ys.take (k+1),t<=x:=λx hx=>by
   obtain ⟨i,hi⟩:=Jb.mp hx
   have hik:i < k+1:=by have:=(Qd.mp hi).1; rw [Qv] at this; omega
   rw [List.getElem?_take,if_pos hik] at hi
   exact hall i k (by omega) x t hi et
  have h2:∀ x∈ys.drop (k+1),x<=t:=λx hx=>by
   obtain ⟨i,hi⟩:=Jb.mp hx
   rw [Qak] at hi
   exact hall k (k+1+i) (by omega) t x et hi
  have e1:=aD8 t (ms.take (k+1))
  have e2:=aD9 h1
  have e3:=yY t ms (k+1)
  have e4:=yY t ys (k+1)
  have e5:=aFr h2
  have e6:=uM t (ms.drop (k+1))
  have e7:=h t
  rw [<- mC hm,<- mC hy] at e7
  have l1:(ms.take (k+1)).length=(ys.take (k+1)).length:=by rw [Qv,Qv]; omega
  rw [l1] at e1
  omega
theorem iK {a b ys:List Int} (hl:a.length=b.length) (h:∀ t,ex t a<=ex t b) (hm:ms.Perm a) (hy:ys.Perm b) (sy:ys.Pairwise (·≥·)):eM ms ys=true:=yV λk hk=>aAE hl h hm hy sy k hk
def inS (p:Int->Bool) (hs:List Int):Int:=aQ (hs.map λh=>if p h then 1 else 0)
theorem inS_le {p:Int->Bool}:∀ {hs hs':List Int},hs.length=hs'.length->(∀ (i:Nat) g t,hs[i]?=some g->hs'[i]?=some t->p g=true->p t=true)->inS p hs<=inS p hs'
 | [],[],_,_=>Xd _
 | g::hs,t::hs',hl,h=>by
  have h1:=inS_le (p:=p) (hs:=hs) (hs':=hs') (by simpa using hl) λi a b ha hb=>h (i+1) a b (by simpa using ha) (by simpa using hb)
  have h2:=h 0 g t rfl rfl
  show (if p g then (1:Int) else 0)+inS p hs<=(if p t then (1:Int) else 0)+inS p hs'
  cases hg:p g with
  | false =>
   simp only [Jg,if_false]
   split <;> omega
  | true =>
   rw [h2 hg]
   simp only [if_true]
   omega
 | [],_::_,hl,_=>by simp at hl
 | _::_,[],hl,_=>by simp at hl
theorem aFs {m:Nat} {h:Int} (p:Int->Bool) (h0:0<=h) (h1:h < m):aQ ((bZ m).map λi=>if p i then (if h=i then 1 else 0) else 0)=if p h then 1 else 0:=by
 induction m with
 | zero=>omega
 | succ m ih =>
  have e:bZ (m+1)=bZ m++[(m:Int)]:=by unfold bZ; rw [List.range_succ,Qp]; rfl
  rw [e,Qp,iJ]
  show _+((if p (m:Int) then (if h=(m:Int) then (1:Int) else 0) else 0)+0)=_
  by_cases hm:h=(m:Int)
  ·rw [gO (l:=bZ m) (f:=λi=>if p i then (if h=i then 1 else 0) else 0) λx hx=>by
    unfold bZ at hx
    obtain ⟨i,hi,rfl⟩:=Qw.mp hx
    have hi':=Jw.mp hi
    rw [if_neg (show ¬ h=((i:Nat):Int) by omega)]
    split <;> rfl]
   rw [if_pos hm,hm]
   omega
  ·rw [ih (by omega),if_neg hm]
   have:(if p (m:Int)=true then (0:Int) else 0)=0:=by split <;> rfl
   rw [this]
   omega
theorem kB (p:Int->Bool):∀ {hs:List Int},(∀ h∈hs,0<=h/\h < n)->aQ ((bZ n.toNat).map λh=>if p h then ((hs.count h:Nat):Int) else 0)=inS p hs
 | [],_=>by
  show _=(0:Int)
  exact gO λx _=>by
   rw [List.count_nil]
   split <;> rfl
 | h::hs,hh=>by
  have ih:=kB p (hs:=hs) λx hx=>hh x (Qk _ hx)
  have hb:=hh h (Qj ..)
  have e1:=aFs (m:=n.toNat) p hb.1 (by omega)
  show _=(if p h then (1:Int) else 0)+inS p hs
  rw [<- ih,<- e1,<- iS]
  refine dX λi _=>?_
  rw [Zc]
  by_cases hp:p i=true
  ·rw [if_pos hp,if_pos hp,if_pos hp]
   by_cases hi:h=i
   ·rw [if_pos hi,if_pos (by rw [hi]; simp)]; omega
   ·rw [if_neg hi,if_neg (by simpa using hi)]; omega
  ·rw [if_neg hp,if_neg hp,if_neg hp]; rfl
theorem aCx (L:eJ n ws hs lv) (hr:∀ h∈hs,0<=h/\h < n) (hr':∀ h∈hs',0<=h/\h < n) (hl:hs.length=hs'.length) (ha:∀ (i:Nat) t,hs'[i]?=some t->∃ l,ws[i]?=some l/\t∈l) (t:Int):ex t (aF n hs)<=ex t (aF n hs'):=by
 obtain ⟨hlv,hL⟩:=L
 have at_:∀ h:Int,0<=h->h < n->∃ v,lv[h.toNat]?=some v/\jZ ws hs n.toNat h v/\((hs.count h:Nat):Int) - v < 2:=λh h0 h1=>by
  have hlt:h.toNat < lv.length:=by omega
  have e:=Qc hlt
  obtain ⟨m1,m2⟩:=hL _ _ e
  rw [show ((h.toNat:Nat):Int)=h by omega] at m1 m2
  exact ⟨_,e,m1,m2⟩
 let p:Int->Bool:=λh=>decide (t<=lv.getD h.toNat 0)
 have pv:∀ h v,lv[h.toNat]?=some v->p h=decide (t<=v):=λh v e=>by
  show decide (t<=lv.getD h.toNat 0)=_
  rw [Qu,e]; rfl
 have up:∀ x∈bZ n.toNat,0<=x/\x < n:=λx hx=>by
  unfold bZ at hx
  obtain ⟨i,hi,rfl⟩:=Qw.mp hx
  have:=Jw.mp hi
  omega
 have e1:ex t (aF n hs)=aQ ((bZ n.toNat).map λh=>if p h then ((hs.count h:Nat):Int) else 0)+aQ ((bZ n.toNat).map λh=>if p h then -t else 0):=by
  unfold ex aF
  rw [Jo,<- iS]
  refine dX λh hh=>?_
  obtain ⟨h0,h1⟩:=up h hh
  obtain ⟨v,ev,mv,dv⟩:=at_ h h0 h1
  have lev:=mv.le
  show max (((hs.count h:Nat):Int) - t) 0=_
  rw [pv h v ev]
  by_cases hp:t<=v
  ·rw [decide_eq_true hp,if_pos rfl,if_pos rfl]; omega
  ·rw [decide_eq_false hp,if_neg Qr,if_neg Qr]; omega
 have e2:aQ ((bZ n.toNat).map λh=>if p h then ((hs'.count h:Nat):Int) else 0)+aQ ((bZ n.toNat).map λh=>if p h then -t else 0)<=ex t (aF n hs'):=by
  unfold ex aF
  rw [Jo,<- iS]
  refine lO λh hh=>?_
  show _<=max (((hs'.count h:Nat):Int) - t) 0
  split <;> omega
 have e3:inS p hs<=inS p hs':=by
  refine inS_le hl λi g u hg hu hpg=>?_
  obtain ⟨l,el,hul⟩:=ha i u hu
  have gb:=hr g (Qi hg)
  have ub:=hr' u (Qi hu)
  obtain ⟨vg,evg,mg,_⟩:=at_ g gb.1 gb.2
  obtain ⟨vu,evu,mu,_⟩:=at_ u ub.1 ub.2
  rw [pv g vg evg] at hpg
  rw [pv u vu evu]
  have hle:vg<=vu:=by
   by_cases hgu:u=g
   ·subst hgu
    rw [evg] at evu
    rw [Option.some.inj evu]; exact Xd _
   ·exact mg.edge mu (w:=i) ⟨hg,l,el,hul,hgu⟩
  exact decide_eq_true (Qaw (of_decide_eq_true hpg) hle)
 rw [kB p hr] at e1
 rw [kB p hr'] at e2
 omega
end Ab
namespace Ab
open L2
theorem dY (hb:bC (aV n ws)=true) (hd:bJ ws (bA hs)=true):∀ h∈hs,0<=h/\h < n:=λh hh=>by
 obtain ⟨_,_,_,hws⟩:=bB hb
 obtain ⟨hl,hm⟩:=aR hd
 obtain ⟨i,hi⟩:=Jb.mp hh
 have hlt:i < ws.length:=by rw [<- hl]; exact (Qd.mp hi).1
 have e:=Qc hlt
 exact (bL (hws _ (Qi e))).2.1 h (hm i h _ hi e)
theorem sG (hb:bC (aV n ws)=true) (hd:bJ ws (bA hs)=true) (hd':bJ ws (bA hs')=true) (L:eJ n ws hs lv) (t:Int):ex t (aF n hs)<=ex t (aF n hs'):=by
 obtain ⟨hl,hm⟩:=aR hd
 obtain ⟨hl',hm'⟩:=aR hd'
 refine aCx L (dY hb hd) (dY hb hd') (by omega) (λi u hu=>?_) t
 have hlt:i < ws.length:=by rw [<- hl']; exact (Qd.mp hu).1
 have e:=Qc hlt
 exact ⟨_,e,hm' i u _ hu e⟩
theorem sH:∀ {a b:List Int},a.length=b.length->(∀ k,k<=a.length->aQ (a.take k)=aQ (b.take k))->a=b
 | [],[],_,_=>rfl
 | [],_::_,hl,_=>by simp at hl
 | _::_,[],hl,_=>by simp at hl
 | x::a,y::b,hl,h=>by
  have h1:x+0=y+0:=h 1 (by simp)
  have e:x=y:=by omega
  subst e
  refine congrArg _ (sH (by simpa using hl) λk hk=>?_)
  have h2:x+aQ (a.take k)=x+aQ (b.take k):=h (k+1) (by simpa using hk)
  omega
theorem sI {a b:List Int} (h:eM a b=true) (k:Nat) (hk:k<=a.length):aQ (a.take k)<=aQ (b.take k):=by
 unfold eM at h
 exact of_decide_eq_true (Jt.mp h k (Jw.mpr (by omega)))
theorem uN {a b:List Int} (hl:a.length=b.length) (h1:eM a b=true) (h2:eM b a=true):a=b :=
 sH hl λk hk=>Int.le_antisymm (sI h1 k hk) (sI h2 k (by omega))
theorem nF {a b ys:List Int} (hl:a.length=b.length) (h1:∀ t,ex t a<=ex t b) (h2:∀ t,ex t b<=ex t a) (hm:ms.Perm a) (hy:ys.Perm b) (sm:ms.Pairwise (·≥·)) (sy:ys.Pairwise (·≥·)):ms=ys :=
 uN (by rw [hm.length_eq,hy.length_eq,hl]) (iK hl h1 hm hy sy) (iK hl.symm h2 hy hm sm)
theorem uO {f:α->β} {us ys:List β} (h:us.Perm ys):∀ xs:List α,xs.map f=us->∃ zs:List α,zs.Perm xs/\zs.map f=ys:=by
 induction h with
 | nil=>intro xs e; exact ⟨xs,.refl _,e⟩
 | cons u _ ih =>
  intro xs e
  cases xs with
  | nil=>cases e
  | cons x xs =>
   injection e with e1 e2
   obtain ⟨zs,h1,h2⟩:=ih xs e2
   exact ⟨x::zs,h1.cons x,by rw [Qy,h2,e1]⟩
 | swap u v l =>
  intro xs e
  match xs,e with
  | x::y::xs,e =>
   injection e with e1 e2
   injection e2 with e2 e3
   exact ⟨y::x::xs,.swap x y xs,by rw [Qy,Qy,e1,e2,e3]⟩
 | trans _ _ ih1 ih2 =>
  intro xs e
  obtain ⟨zs,h1,h2⟩:=ih1 xs e
  obtain ⟨ws,h3,h4⟩:=ih2 zs h2
  exact ⟨ws,h3.trans h1,h4⟩
theorem aAF (n:Nat):(bZ n).Nodup:=by
 unfold bZ
 exact List.Pairwise.map _ (λa b h z=>h (by omega)) List.nodup_range
theorem oF {p:Int->Int} {h:Int}:∀ {hs:List Int},(∀ x∈hs,p x=p h->x=h)->(hs.map p).count (p h)=hs.count h
 | [],_=>rfl
 | x::hs,hi=>by
  rw [Qy,Zc,Zc,oF λy hy=>hi y (Qk _ hy)]
  by_cases e:x=h
  ·rw [e]; simp
  ·have:¬ p x=p h:=λz=>e (hi x (Qj ..) z)
   simp [e,this]
theorem oG {p:Int->Int} (hp:((bZ n.toNat).map p).Perm (bZ n.toNat)) (hr:∀ h∈hs,0<=h/\h < n) (he:hs'.Perm (hs.map p)):(aF n hs').Perm (aF n hs):=by
 have hmem:∀ x:Int,0<=x->x < n->x∈bZ n.toNat:=λx h0 h1=>by
  unfold bZ
  exact Qw.mpr ⟨x.toNat,Jw.mpr (by omega),by omega⟩
 have hinj:∀ x∈bZ n.toNat,∀ y∈bZ n.toNat,p x=p y->x=y:=by
  have hn:((bZ n.toNat).map p).Nodup:=hp.nodup_iff.mpr (aAF _)
  intro x hx y hy e
  obtain ⟨i,hi⟩:=Jb.mp hx
  obtain ⟨j,hj⟩:=Jb.mp hy
  have ei:((bZ n.toNat).map p)[i]?=some (p x):=by rw [Qe,hi]; rfl
  have ej:((bZ n.toNat).map p)[j]?=some (p x):=by rw [Qe,hj,e]; rfl
  have hli:=(Qd.mp ei).1
  have:i=j:=(Wi hli hn).mp (by rw [ei,ej])
  subst this
  rw [hi] at hj
  exact Option.some.inj hj
 unfold aF
 have h1:((bZ n.toNat).map λh=>((hs'.count h:Nat):Int)).Perm (((bZ n.toNat).map p).map λh=>((hs'.count h:Nat):Int)):=(hp.map _).symm
 refine h1.trans (List.Perm.of_eq ?_)
 rw [Jo]
 refine Xk λh hh=>?_
 show ((hs'.count (p h):Nat):Int)=_
 rw [he.count_eq,oF λx hx e=>hinj x (hmem x (hr x hx).1 (hr x hx).2) h hh e]
structure Called (n:Int) (p:Int->Int) (g:List Int->List Int) (ws ws':List (List Int)):Prop where
 perm:((bZ n.toNat).map p).Perm (bZ n.toNat)
 mem:∀ l∈ws,∀ x,x∈g l↔∃ h∈l,p h=x
 works:ws'.Perm (ws.map g)
theorem oH:∀ {a:List α} {b:List β},a.length=b.length->(a.zip b).map Prod.fst=a
 | [],[],_=>rfl
 | x::a,y::b,h=>congrArg (x::·) (oH (by simpa using h))
 | [],_::_,h=>by simp at h
 | _::_,[],h=>by simp at h
theorem qP:∀ {a:List α} {b:List β},a.length=b.length->(a.zip b).map Prod.snd=b
 | [],[],_=>rfl
 | x::a,y::b,h=>congrArg (y::·) (qP (by simpa using h))
 | [],_::_,h=>by simp at h
 | _::_,[],h=>by simp at h
theorem mQ (hl:hs.length=ws.length) (h:∀ q∈ws.zip hs,q.2∈q.1):bJ ws (bA hs)=true :=
 fJ hl λj x l e1 e2=>h (l,x) (Qi (i:=j) (by rw [Jl]; exact ⟨e2,e1⟩))
theorem mR (h:bJ ws (bA hs)=true):∀ q∈ws.zip hs,q.2∈q.1:=λq hq=>by
 obtain ⟨j,hj⟩:=Jb.mp hq
 rw [Jl] at hj
 exact (aR h).2 j q.2 q.1 hj.2 hj.1
theorem aEa:∀ zs:List (α×β),(zs.map Prod.fst).zip (zs.map Prod.snd)=zs
 | []=>rfl
 | z::zs=>congrArg (z::·) (aEa zs)
theorem Called.there {p:Int->Int} {g:List Int->List Int} (c:Called n p g ws ws') (h:bJ ws (bA hs)=true):∃ hs',bJ ws' (bA hs')=true/\hs'.Perm (hs.map p):=by
 have hl:=(aR h).1
 have hz:=mR h
 have e1:((ws.zip hs).map λq=>(g q.1,p q.2)).map Prod.fst=ws.map g:=by
  rw [Jo]
  show (ws.zip hs).map (g ∘ Prod.fst)=_
  rw [<- Jo,oH hl.symm]
 obtain ⟨zs,h1,h2⟩:=uO (c.works.symm) ((ws.zip hs).map λq=>(g q.1,p q.2)) e1
 refine ⟨zs.map Prod.snd,mQ (by rw [<- h2,Qb,Qb]) λq hq=>?_,?_⟩
 ·rw [<- h2,aEa] at hq
  obtain ⟨r,hr,rfl⟩:=Qw.mp (h1.mem_iff.mp hq)
  have hrm:r.1∈ws:=by rw [<- oH hl.symm]; exact Qw.mpr ⟨r,hr,rfl⟩
  exact (c.mem r.1 hrm _).mpr ⟨r.2,hz r hr,rfl⟩
 ·refine (h1.map Prod.snd).trans (List.Perm.of_eq ?_)
  rw [Jo]
  show (ws.zip hs).map (p ∘ Prod.snd)=_
  rw [<- Jo,qP hl.symm]
theorem aBv {p:Int->Int} {g:List Int->List Int}:∀ {ws:List (List Int)} {zs:List (List Int×Int)},(∀ l∈ws,∀ x,x∈g l↔∃ h∈l,p h=x)->zs.map Prod.fst=ws.map g->(∀ q∈zs,q.2∈q.1)->∃ hs:List Int,hs.length=ws.length/\(∀ q∈ws.zip hs,q.2∈q.1)/\hs.map p=zs.map Prod.snd
 | [],[],_,_,_=>⟨[],rfl,λ_ h=>(Qs h).elim,rfl⟩
 | [],_::_,_,e,_=>by cases e
 | _::_,[],_,e,_=>by cases e
 | l::ws,z::zs,hm,e,hq=>by
  injection e with e1 e2
  obtain ⟨hs,h1,h2,h3⟩:=aBv (p:=p) (g:=g) (ws:=ws) (zs:=zs) (λl' hl'=>hm l' (Qk _ hl')) e2 λq h=>hq q (Qk _ h)
  have hz:=hq z (Qj ..)
  rw [e1] at hz
  obtain ⟨h,hh,eh⟩:=(hm l (Qj ..) z.2).mp hz
  refine ⟨h::hs,by rw [Ja,Ja,h1],λq hq'=>?_,by rw [Qy,Qy,eh,h3]⟩
  rcases Qn.mp hq' with rfl | hq'
  ·exact hh
  ·exact h2 q hq'
theorem Called.back {p:Int->Int} {g:List Int->List Int} (c:Called n p g ws ws') (h:bJ ws' (bA hs')=true):∃ hs,bJ ws (bA hs)=true/\hs'.Perm (hs.map p):=by
 have hl:=(aR h).1
 obtain ⟨zs,h1,h2⟩:=uO c.works (ws'.zip hs') (oH hl.symm)
 obtain ⟨hs,k1,k2,k3⟩:=aBv c.mem h2 λq hq=>mR h q (h1.mem_iff.mp hq)
 refine ⟨hs,mQ k1 k2,?_⟩
 rw [k3]
 have:=(h1.map Prod.snd).symm
 rwa [qP hl.symm] at this
theorem Called.falling {p:Int->Int} {g:List Int->List Int} {lv' ms':List Int} (c:Called n p g ws ws') (hb:bC (aV n ws)=true) (hb':bC (aV n ws')=true) (hd:bJ ws (bA hs)=true) (hd':bJ ws' (bA hs')=true) (L:eJ n ws hs lv) (L':eJ n ws' hs' lv') (hm:ms.Perm (aF n hs)) (hm':ms'.Perm (aF n hs')) (sm:ms.Pairwise (·≥·)) (sm':ms'.Pairwise (·≥·)):ms'=ms:=by
 obtain ⟨h1,d1,p1⟩:=c.there hd
 obtain ⟨h2,d2,p2⟩:=c.back hd'
 refine nF (by rw [eA,eA]) (λt=>?_) (λt=>?_) hm' hm sm' sm
 ·have:=sG hb' hd' d1 L' t
  rwa [mC (oG c.perm (dY hb hd) p1)] at this
 ·have:=sG hb hd d2 L t
  rwa [<- mC (oG c.perm (dY hb d2) p2)] at this
end Ab
namespace Ab
open PySem L2
theorem iZ:∀ {Ws:List (List (Nat×Int×Int))} {hs he:List Int},oE n ws hs Ws he->bJ ws (bA hs)=true->bJ ws (bA he)=true
 | [],hs,he,c,h=>by
  have e:hs=he:=c
  rw [<- e]; exact h
 | ss::Ws,hs,he,⟨W,c⟩,h=>by
  refine iZ c ?_
  obtain ⟨hdl,hdg⟩:=aR h
  obtain ⟨h0,xx,hne,hP,_⟩:=W
  refine fJ (by rw [pJ]; exact hdl) (pK ss (λs hs'=>?_) hdg)
  obtain ⟨i,hi⟩:=Jb.mp hs'
  obtain ⟨⟨_,l,e2,e3,_⟩,_⟩:=mB hP i s hi
  exact ⟨l,e2,e3⟩
theorem tJ (L:eJ n ws hs lv) (W:qC n ws hs ss):False:=by
 obtain ⟨h,x,hne,hP,hN,h0,h1,hRL,hge⟩:=W
 have hlt:h.toNat < lv.length:=by rw [L.1]; omega
 obtain ⟨m1,m2⟩:=L.2 h.toNat _ (Qc hlt)
 rw [show ((h.toNat:Nat):Int)=h by omega] at m1 m2
 have:=m1.2 _ x hRL
 omega
def mD (K:Rc) (Pt:Addr):Sp:=λvs H Q _=>∃ (x:V) (n:Int) (ws:List (List Int)),vs = [x]/\Den K H (aV n ws) x/\bC (aV n ws)=true/\H Pt=some (.tab oC) /\
 ∀ (p dp lp:Addr) (hs lv:List Int) H',aD H H'->H' p=some (.tup [.ref dp,.ref lp])->H' dp=some (.tup (hs.map V.int))->bJ ws (bA hs)=true->H' lp=some (.tup (lv.map V.int))->eJ n ws hs lv->Q (.ref p) H'
theorem pM:FnScope ["book", "ways", "deal"] ["book"] (aG jX):=⟨rfl,rfl,rfl,by decide +kernel,rfl,by decide +kernel,by decide +kernel⟩
theorem aAG {fBt fLw:Addr} {dBt dLw:FuncData} (G:Fn K mg "evenest" jX ["book"] f fd) (B:Bl mg) (R:Pr K mg fW fH fK fB fNB fD fND fL dW dH dK dB dNB dD dND dL) (GBt:Fn K mg "bettered" iP ["book", "deal"] fBt dBt) (OBt:FnOk P w K mg base CX0 10 fBt dBt ["book", "deal"] (kQ K Pt)) (GLw:Fn K mg "levels_or_way" aDN ["book", "deal"] fLw dLw) (OLw:FnOk P w K mg base CX0 8 fLw dLw ["book", "deal"] (aBq K Pt)):FnOk P w K mg base CX0 11 f fd ["book"] (mD K Pt):=by
 have ONB:FnOk P w K mg base CX0 4 fNB dNB ["book"] (vZ K):=yH B R
 refine G.fn.ok pM (λvs H Q E h=>?_) (λcdv A outer s H vs Q E hr h=>?_)
 ·obtain ⟨x,n,ws,rfl,_⟩:=h
  rfl
 ·obtain ⟨x,n,ws,rfl,hx,hbk,hT,k⟩:=h
  have r4:Room 4 _:=hr.mono (by decide)
  have r8:Room 8 _:=hr.mono (by decide)
  have r10:Room 10 _:=hr
  refine ⟨_,(aE (gA (bF R.NB ONB r4 rfl (aA (pv 0) aC)))
  (aE (iA (bF GBt OBt r10 rfl (aA (pv 0) (aA (bR bV rfl B.tuple cM (aA (cB (own:=["able"]) (fr:=[]) (frn:=[]) (bG (aG jX) ["book", "ways", "deal"] rfl rfl (by decide +kernel)) rfl (gB (aZ bY (pv 0) aI (λ_ _=>rfl)))
    (λ_ _ _ _=>(aK (i:=0) (show (["able"]:List Str).Nodup by decide +kernel) rfl (Or.inl rfl))) (λ_ _ _ _=>dO)
    (λ_ _ _ _=>(aZ (cN (K:=K) rfl) (pv 0) aI (λ_ _=>rfl)))) aC)) aC))) (fM rfl (aU (aK (i:=1) pM.nd rfl (Or.inl rfl)) (aU (aK (i:=2) pM.nd rfl (Or.inl rfl)) cP))))
  (aJ (aX (cH (aA (pv 2) (aA (aZ bY (bF GLw OLw r8 rfl (aA (pv 0) (aA (pv 2) aC))) aI (λ_ _=>rfl)) aC))))))),?_⟩
  obtain ⟨hn1,hn6,hw12,hws⟩:=bB hbk
  refine ⟨_,rfl,x,aV n ws,rfl,hx,hbk,λH1 s1=>?_⟩
  have hx1:=s1.den _ _ hx
  obtain ⟨a,b,ys,rfl,ha,hb2,hys⟩:=cY hx1
  have hlw:=aN hys
  rw [Qb] at hlw
  refine ⟨_,rfl,_,rfl,a,_,1,.ref b,rfl,rfl,ha,rfl,b,rfl,⟨_,hb2⟩,jT (K:=K) (a:=b) (xs:=ys) (λσ=>∃ v,σ = [v]) (λi zs H2=>H2=H1/\zs=((ws.take i).map λl=>l.headD 0).map V.int) (cZ (by omega)) ⟨none,rfl⟩ ⟨rfl,rfl⟩ (λi zs H2 z=>by rw [z.2,Qb,Qb,Qv]; omega) (λi zs H2 z=>by rw [z.1]; exact hb2) ?_ ?_⟩
  ·rintro i zs σ u H2 hu ⟨v,rfl⟩ ⟨rfl,rfl⟩ hz
   obtain ⟨dv,hdv,denv⟩:=bU hys hu
   rw [Qe] at hdv
   obtain ⟨l,hl,rfl⟩:∃ l,ws[i]?=some l/\bM l=dv:=by
    cases q:ws[i]? with
    | none=>rw [q] at hdv; cases hdv
    | some l=>rw [q] at hdv; exact ⟨l,rfl,Option.some.inj hdv⟩
   obtain ⟨aw,rfl,haw⟩:=aP.mp denv
   obtain ⟨l0,_,_⟩:=bL (hws l (Qi hl))
   have hat:atI (l.map V.int) 0=some (.int (l.headD 0)):=by
    cases l with
    | nil=>exact absurd rfl l0
    | cons y l=>exact cF (j:=0) rfl
   refine cI ?_
   refine ⟨_,rfl,aw,_,0,_,rfl,rfl,haw,hat,hz,⟨_,rfl⟩,rfl,?_⟩
   rw [Jd,hl,Qp,Qp]
   rfl
  ·rintro zs H2 ⟨rfl,rfl⟩ lq hlq
   rw [Jq (show ws.length<=ys.length by omega)]
   refine ⟨lq,_,rfl,.inl ⟨SqL.of aB,λdq hdq=>?_⟩⟩
   have s3:=(aD.new (o:=.lst ((ws.map λl=>l.headD 0).map V.int)) hlq).trans (aD.new (o:=.tup ((ws.map λl=>l.headD 0).map V.int)) hdq)
   have d3:upd (upd H2 lq (.lst ((ws.map λl=>l.headD 0).map V.int))) dq (.tup ((ws.map λl=>l.headD 0).map V.int)) dq=some (.tup ((ws.map λl=>l.headD 0).map V.int)):=aB
   generalize upd (upd H2 lq (.lst ((ws.map λl=>l.headD 0).map V.int))) dq (.tup ((ws.map λl=>l.headD 0).map V.int))=H3 at s3 d3 ⊢
   have hd0:bJ ws (bA (ws.map λl=>l.headD 0))=true:=fJ (by rw [Qb]) λj h l e1 e2=>by
    rw [Qe,e2] at e1
    have e:l.headD 0=h:=Option.some.inj e1
    obtain ⟨l0,_,_⟩:=bL (hws l (Qi e2))
    cases l with
    | nil=>exact absurd rfl l0
    | cons y l=>rw [<- e]; exact Qj ..
   have s13:=s1.trans s3
   have g3:eR K H3 (.ref a) (.ref dq) n ws (ws.map λl=>l.headD 0):=⟨s3.den _ _ hx1,hbk,aP.mpr ⟨dq,rfl,SqT.of d3⟩,hd0⟩
   refine ⟨.ref a,.ref dq,n,ws,_,rfl,g3,s13 _ _ hT,λp H4 s4 hp=>?_⟩
   obtain ⟨wl,dl,qs,Ws,he,lv,hp4,_,_,_,hdl,hch,hlv⟩:=hp
   refine ⟨p,_,rfl,SqT.of hp4,rfl,_,_,rfl,_,_,rfl,rfl,?_⟩
   have hde:=iZ hch hd0
   have s14:=s13.trans s4
   have g4:eR K H4 (.ref a) (.ref dl) n ws he:=⟨(s3.trans s4).den _ _ hx1,hbk,aP.mpr ⟨dl,rfl,SqT.of hdl⟩,hde⟩
   refine ⟨_,rfl,_,rfl,_,rfl,.ref a,.ref dl,n,ws,he,rfl,g4,s14 _ _ hT,λp2 H5 s5 hp2=>?_⟩
   rcases hp2 with ⟨lq2,lv2,e1,e2,e3⟩ | ⟨_,_,ss,_,_,_,_,hW⟩
   ·refine ⟨p2,_,1,.ref lq2,rfl,rfl,SqT.of e1,rfl,sz2 _ _,λr hr'=>?_⟩
    have s6:=aD.new (o:=.tup [.ref dl,.ref lq2]) hr'
    exact k r dl lq2 he lv2 _ (s14.trans (s5.trans s6)) aB ((s5.trans s6) _ _ hdl) hde (s6 _ _ e2) e3
   ·exact (tJ hlv hW).elim
def lvA (lv:List Int) (h:Int):Int:=lv.getD h.toNat 0
structure Lvl (n:Int) (ws:List (List Int)) (hs lv:List Int):Prop where
 box:∀ h:Int,0<=h->h < n->lvA lv h<=((hs.count h:Nat):Int)/\((hs.count h:Nat):Int)<=lvA lv h+1
 low:∀ (i:Nat) g l,hs[i]?=some g->ws[i]?=some l->∀ u∈l,lvA lv g<=lvA lv u
def pL (lv:List Int) (t:Int):Int->Bool:=λh=>decide (t<=lvA lv h)
def cL (n:Int) (lv:List Int) (t:Int):Int:=aQ ((bZ n.toNat).map λh=>if pL lv t h then -t else 0)
theorem aEb:∀ x∈bZ n.toNat,0<=x/\x < n:=λx hx=>by
 unfold bZ at hx
 obtain ⟨i,hi,rfl⟩:=Qw.mp hx
 have:=Jw.mp hi
 omega
theorem wJ (L:eJ n ws hs lv) (hr:∀ h∈hs,0<=h/\h < n) (hw:∀ l∈ws,∀ h∈l,0<=h/\h < n):Lvl n ws hs lv:=by
 obtain ⟨hlv,hL⟩:=L
 have at_:∀ h:Int,0<=h->h < n->jZ ws hs n.toNat h (lvA lv h)/\((hs.count h:Nat):Int) - lvA lv h < 2:=λh h0 h1=>by
  have e:=Qc (show h.toNat < lv.length by omega)
  have m:=hL _ _ e
  rw [show ((h.toNat:Nat):Int)=h by omega] at m
  have e2:lvA lv h=lv[h.toNat]'(by omega):=by unfold lvA; rw [Qu,e]; rfl
  rw [e2]; exact m
 refine ⟨λh h0 h1=>?_,λi g l hg hl u hu=>?_⟩
 ·obtain ⟨m,d⟩:=at_ h h0 h1
  have:=m.le
  omega
 ·have gb:=hr g (Qi hg)
  have ub:=hw l (Qi hl) u hu
  by_cases e:u=g
  ·rw [e]; exact Xd _
  ·exact (at_ g gb.1 gb.2).1.edge (at_ u ub.1 ub.2).1 (w:=i) ⟨hg,l,hl,hu,e⟩
theorem Lvl.ex_eq (L:Lvl n ws hs lv) (hr:∀ h∈hs,0<=h/\h < n) (t:Int):ex t (aF n hs)=inS (pL lv t) hs+cL n lv t:=by
 rw [<- kB _ hr]
 unfold ex aF cL
 rw [Jo,<- iS]
 refine dX λh hh=>?_
 obtain ⟨h0,h1⟩:=aEb h hh
 have b:=L.box h h0 h1
 show max (((hs.count h:Nat):Int) - t) 0=_
 unfold pL
 by_cases hp:t<=lvA lv h
 ·rw [decide_eq_true hp,if_pos rfl,if_pos rfl]; omega
 ·rw [decide_eq_false hp,if_neg Qr,if_neg Qr]; omega
theorem aBw (hr:∀ h∈hs',0<=h/\h < n) (t:Int):inS (pL lv t) hs'+cL n lv t=aQ ((bZ n.toNat).map λh=>if pL lv t h then ((hs'.count h:Nat):Int) - t else 0):=by
 rw [<- kB _ hr]
 unfold cL
 rw [<- iS]
 refine dX λh hh=>?_
 split <;> omega
theorem aBx (t:Int):ex t (aF n hs')=aQ ((bZ n.toNat).map λh=>max (((hs'.count h:Nat):Int) - t) 0):=by
 unfold ex aF; rw [Jo]; rfl
theorem aFR (hr:∀ h∈hs',0<=h/\h < n) (t:Int):inS (pL lv t) hs'+cL n lv t<=ex t (aF n hs'):=by
 rw [aBw hr,aBx]
 exact lO λh hh=>by split <;> omega
theorem Lvl.up (L:Lvl n ws hs lv) (ha:∀ (i:Nat) t,hs'[i]?=some t->∃ l,ws[i]?=some l/\t∈l) (t:Int):∀ (i:Nat) g u,hs[i]?=some g->hs'[i]?=some u->pL lv t g=true->pL lv t u=true:=λi g u hg hu hp=>by
 obtain ⟨l,el,hul⟩:=ha i u hu
 exact decide_eq_true (Qaw (of_decide_eq_true hp) (L.low i g l hg el u hul))
theorem sJ {f g:α->Int}:∀ {l:List α},(∀ x∈l,f x<=g x)->aQ (l.map f)=aQ (l.map g)->∀ x∈l,f x=g x
 | a::l,h,e,x,hx=>by
  have h1:=h a (Qj ..)
  have h2:=lO (l:=l) λx hx=>h x (Qk _ hx)
  have e':f a+aQ (l.map f)=g a+aQ (l.map g):=e
  rcases Qn.mp hx with rfl | hx
  ·omega
  ·exact sJ (λx hx=>h x (Qk _ hx)) (by omega) x hx
theorem aEc {p:Int->Bool} (hl:hs.length=hs'.length) (h:∀ (i:Nat) g t,hs[i]?=some g->hs'[i]?=some t->p g=true->p t=true) (e:inS p hs=inS p hs'):∀ (i:Nat) g t,hs[i]?=some g->hs'[i]?=some t->p t=true->p g=true:=by
 have e1:inS p hs=aQ ((hs.zip hs').map λq=>if p q.1 then 1 else 0):=by
  unfold inS; conv=>lhs; rw [<- oH hl,Jo]
  rfl
 have e2:inS p hs'=aQ ((hs.zip hs').map λq=>if p q.2 then 1 else 0):=by
  unfold inS; conv=>lhs; rw [<- qP hl,Jo]
  rfl
 rw [e1,e2] at e
 intro i g t hg ht hp
 have hm:(hs.zip hs')[i]?=some (g,t):=Jl.mpr ⟨hg,ht⟩
 have:=sJ (f:=λq:Int×Int=>if p q.1 then (1:Int) else 0) (g:=λq=>if p q.2 then 1 else 0) (λq hq=>by
  obtain ⟨j,hj⟩:=Jb.mp hq
  obtain ⟨a,b⟩:=Jl.mp hj
  have:=h j _ _ a b
  show (if p q.1 then (1:Int) else 0)<=if p q.2 then 1 else 0
  cases c:p q.1 with
  | false=>simp only [Jg,if_false]; split <;> omega
  | true=>rw [this c]; exact Xd _) e _ (Qi hm)
 simp only [hp,if_true] at this
 by_cases c:p g=true
 ·exact c
 ·rw [if_neg c] at this; omega
theorem aFS (hd':bJ ws (bA hs')=true):∀ (i:Nat) t,hs'[i]?=some t->∃ l,ws[i]?=some l/\t∈l:=λi u hu=>by
 obtain ⟨hl',hm'⟩:=aR hd'
 have hlt:i < ws.length:=by rw [<- hl']; exact (Qd.mp hu).1
 have e:=Qc hlt
 exact ⟨_,e,hm' i u _ hu e⟩
theorem Lvl.inS_le (L:Lvl n ws hs lv) (hd:bJ ws (bA hs)=true) (hd':bJ ws (bA hs')=true) (t:Int):inS (pL lv t) hs<=inS (pL lv t) hs' :=
 Ab.inS_le ((aR hd).1.trans (aR hd').1.symm) (L.up (aFS hd') t)
theorem Lvl.least (L:Lvl n ws hs lv) (hb:bC (aV n ws)=true) (hd:bJ ws (bA hs)=true) (hd':bJ ws (bA hs')=true) (t:Int):ex t (aF n hs)<=ex t (aF n hs'):=by
 rw [L.ex_eq (dY hb hd)]
 have:=aFR (lv:=lv) (dY hb hd') t
 have:=L.inS_le hd hd' t
 omega
theorem Lvl.same (L:Lvl n ws hs lv) (hb:bC (aV n ws)=true) (hd:bJ ws (bA hs)=true) (hd':bJ ws (bA hs')=true) (h:∀ t,ex t (aF n hs')=ex t (aF n hs)):Lvl n ws hs' lv:=by
 have key:∀ t,inS (pL lv t) hs=inS (pL lv t) hs'/\inS (pL lv t) hs'+cL n lv t=ex t (aF n hs'):=λt=>by
  have h1:=L.ex_eq (dY hb hd) t
  have h2:=aFR (lv:=lv) (dY hb hd') t
  have h3:=L.inS_le hd hd' t
  have h4:=h t
  constructor <;> omega
 have tw:∀ t x:Int,0<=x->x < n->(if pL lv t x then ((hs'.count x:Nat):Int) - t else 0)=max (((hs'.count x:Nat):Int) - t) 0:=λt x h0 h1=>by
  have e:=(key t).2
  rw [aBw (dY hb hd'),aBx] at e
  exact sJ (f:=λh=>if pL lv t h then ((hs'.count h:Nat):Int) - t else 0) (g:=λh=>max (((hs'.count h:Nat):Int) - t) 0) (λy _=>by by_cases c:pL lv t y=true <;> simp only [c,if_true,if_false,Jg] <;> exact (by omega)) e x (by
   unfold bZ
   exact Qw.mpr ⟨x.toNat,Jw.mpr (by omega),by omega⟩)
 refine ⟨λx h0 h1=>?_,λi g l hg hl u hu=>?_⟩
 ·have a:=tw (lvA lv x) x h0 h1
  have b:=tw (lvA lv x+1) x h0 h1
  rw [show pL lv (lvA lv x) x=true from decide_eq_true (Xd _),if_pos rfl] at a
  rw [show pL lv (lvA lv x+1) x=false from decide_eq_false (by omega),if_neg Qr] at b
  omega
 ·have hlt:i < hs.length:=by rw [(aR hd).1,<- (aR hd').1]; exact (Qd.mp hg).1
  have eo:=Qc hlt
  have:=aEc ((aR hd).1.trans (aR hd').1.symm) (L.up (aFS hd') (lvA lv g)) (key _).1 i _ g eo hg (decide_eq_true (Xd _))
  exact Qaw (of_decide_eq_true this) (L.low i _ l eo hl u hu)
theorem Lvl.iff (L:Lvl n ws hs lv) (hb:bC (aV n ws)=true) (hd:bJ ws (bA hs)=true) (hd':bJ ws (bA hs')=true):(aF n hs').Perm (aF n hs)↔Lvl n ws hs' lv:=by
 refine ⟨λp=>L.same hb hd hd' λt=>mC p,λL'=>?_⟩
 have a:=Qah (aF n hs) λa b=>decide (a≥b)
 have a':=Qah (aF n hs') λa b=>decide (a≥b)
 have so:∀ l:List Int,(l.mergeSort λa b=>decide (a≥b)).Pairwise (·≥·):=λl=>by
  have:=List.pairwise_mergeSort (le:=λa b:Int=>decide (a≥b)) (by intro a b c h1 h2; simp at *; omega) (by intro a b; simp; omega) l
  exact this.imp λh=>by simpa using h
 have:=nF (a:=aF n hs) (b:=aF n hs') (by unfold aF; rw [Qb,Qb]) (λt=>L.least hb hd hd' t) (λt=>L'.least hb hd' hd t) a a' (so _) (so _)
 exact a'.symm.trans ((List.Perm.of_eq this.symm).trans a)
def enc (m:List (List Int×Int)):List (List Key×V):=m.map λp=>(p.1.map Sum.inl,.int p.2)
def kC (m:List (List Int×Int)) (k:List Int):Option Int:=(m.find? λp=>decide (p.1=k)).map (·.2)
def kD (m:List (List Int×Int)) (k:List Int) (v:Int):List (List Int×Int):=if (m.any λp=>decide (p.1=k))=true then m.map (λp=>if p.1=k then (p.1,v) else p) else m++[(k,v)]
def lA (l:List Int) (h:Nat):List Int:=l.take h++[l.getD h 0+1]++l.drop (h+1)
def iG (lv:List Int) (g:List (List Int×Int)) (p:List Int×Int) (h:Int):List (List Int×Int):=if p.1.getD h.toNat 0<=lv.getD h.toNat 0 then kD g (lA p.1 h.toNat) ((kC g (lA p.1 h.toNat)).getD 0+p.2) else g
def withP (lv tk:List Int) (g:List (List Int×Int)) (p:List Int×Int):List (List Int×Int):=tk.foldl (λg h=>iG lv g p h) g
def withW (R:List (List Int×Int)) (tk lv:List Int):List (List Int×Int):=R.foldl (λg p=>withP lv tk g p) []
theorem oI {k j:List Int}:(k.map (Sum.inl:Int->Key)=j.map Sum.inl)↔k=j:=⟨λh=>(List.map_inj_right (λ_ _ e=>Sum.inl.inj e)).mp h,λh=>by rw [h]⟩
theorem pN (k:List Int):(k.map (Sum.inl:Int->Key)).map kV=k.map V.int:=by rw [Jo]; rfl
theorem sK (m:List (List Int×Int)) (k:List Int):dJ (enc m) (k.map Sum.inl)=(kC m k).map V.int:=by
 unfold dJ kC enc
 rw [List.find?_map,Option.map_map,Option.map_map]
 have e:((λkv:List Key×V=>decide (kv.1=k.map Sum.inl)) ∘ λp:List Int×Int=>(p.1.map Sum.inl,V.int p.2))=λp=>decide (p.1=k):=by
  funext p
  show decide (p.1.map Sum.inl=k.map Sum.inl)=_
  exact decide_eq_decide.mpr oI
 rw [e]
 rfl
theorem aEd (m:List (List Int×Int)) (k:List Int) (v:Int):jL (enc m) (k.map Sum.inl) (.int v)=enc (kD m k v):=by
 unfold jL kD enc
 have e:∀ p:List Int×Int,decide ((p.1.map (Sum.inl:Int->Key))=k.map Sum.inl)=decide (p.1=k):=λp=>decide_eq_decide.mpr oI
 have ea:((m.map λp=>(p.1.map (Sum.inl:Int->Key),V.int p.2)).any λkv=>decide (kv.1=k.map Sum.inl))=m.any λp=>decide (p.1=k):=by
  rw [Wy]
  congr 1
  funext p
  exact e p
 rw [ea]
 by_cases h:(m.any λp=>decide (p.1=k))=true
 ·rw [if_pos h,if_pos h,Jo,Jo]
  refine Xk λp _=>?_
  show (if p.1.map Sum.inl=k.map Sum.inl then _ else _)=_
  by_cases hp:p.1=k
  ·rw [if_pos (oI.mpr hp)]
   show _=(λp:List Int×Int=>(p.1.map (Sum.inl:Int->Key),V.int p.2)) (if p.1=k then (p.1,v) else p)
   rw [if_pos hp]
  ·rw [if_neg (λz=>hp (oI.mp z))]
   show _=(λp:List Int×Int=>(p.1.map (Sum.inl:Int->Key),V.int p.2)) (if p.1=k then (p.1,v) else p)
   rw [if_neg hp]
 ·rw [if_neg h,if_neg h,Qp]
  rfl
theorem aAH (lv tk:List Int) (g:List (List Int×Int)) (p:List Int×Int) {i:Nat} {h:Int} (e:tk[i]?=some h):withP lv (tk.take (i+1)) g p=iG lv (withP lv (tk.take i) g p) p h:=by
 unfold withP
 rw [Jd,e,Zo]
 rfl
theorem aAI (R:List (List Int×Int)) (tk lv:List Int) {i:Nat} {p:List Int×Int} (e:R[i]?=some p):withW (R.take (i+1)) tk lv=withP lv tk (withW (R.take i) tk lv) p:=by
 unfold withW
 rw [Jd,e,Zo]
 rfl
structure KOk (n:Nat) (c:Int) (m:List (List Int×Int)):Prop where
 nd:(m.map (·.1)).Nodup
 box:∀ p∈m,p.1.length=n/\∀ x∈p.1,0<=x/\x<=c
 pos:∀ p∈m,0 < p.2
theorem aCy (m:List (List Int×Int)) (k:List Int) (v:Int):(kD m k v).map (·.1)=if k∈m.map (·.1) then m.map (·.1) else m.map (·.1)++[k]:=by
 unfold kD
 have e:(m.any λp=>decide (p.1=k))=true↔k∈m.map (·.1):=by simp [Yc]
 by_cases h:k∈m.map (·.1)
 ·rw [if_pos (e.mpr h),if_pos h,Jo]
  refine Xk λp _=>?_
  show (if p.1=k then (p.1,v) else p).1=p.1
  split <;> rfl
 ·rw [if_neg (λz=>h (e.mp z)),if_neg h,Qp]
  rfl
theorem yZ {k:List Int} {v:Int} {p:List Int×Int} (h:p∈kD m k v):p=(k,v)∨p∈m:=by
 unfold kD at h
 split at h
 ·obtain ⟨q,hq,rfl⟩:=Qw.mp h
  by_cases e:q.1=k
  ·rw [if_pos e]; exact .inl (by rw [e])
  ·rw [if_neg e]; exact .inr hq
 ·rcases Jh.mp h with h | h
  ·exact .inr h
  ·exact .inl (Qo.mp h)
theorem KOk.put {n:Nat} {c:Int} {k:List Int} {v:Int} (h:KOk n c m) (h1:k.length=n) (h2:∀ x∈k,0<=x/\x<=c) (h3:0 < v):KOk n c (kD m k v):=by
 refine ⟨?_,λp hp=>?_,λp hp=>?_⟩
 ·rw [aCy]
  split
  ·exact h.nd
  ·rename_i hk
   exact Wj.mpr ⟨h.nd,by simp,λx hx y hy e=>hk (by rw [<- Qo.mp hy,<- e]; exact hx)⟩
 ·rcases yZ hp with rfl | hp
  ·exact ⟨h1,h2⟩
  ·exact h.box p hp
 ·rcases yZ hp with rfl | hp
  ·exact h3
  ·exact h.pos p hp
theorem zC {n:Nat} {c:Int} (h:KOk n c m) (k:List Int):0<=(kC m k).getD 0:=by
 unfold kC
 cases q:m.find? λp=>decide (p.1=k) with
 | none=>exact Xd _
 | some p=>exact Int.le_of_lt <| h.pos p (List.mem_of_find?_eq_some q)
theorem aEe {h:Nat} (hl:h < l.length):(lA l h).length=l.length:=by
 unfold lA
 rw [Qq,Qq,Qv,Jy]
 show _+1+_=_
 omega
theorem aEf {h:Nat} {c:Int} (hb:∀ x∈l,0<=x/\x<=c) (hl:h < l.length):∀ x∈lA l h,0<=x/\x<=c+1:=by
 intro x hx
 unfold lA at hx
 rcases Jh.mp hx with hx | hx
 ·rcases Jh.mp hx with hx | hx
  ·have:=hb x (Xh hx); omega
  ·rw [Qo.mp hx,Qu,Qc hl]
   have:=hb _ (Xb hl)
   show 0<=l[h]+1/\l[h]+1<=c+1
   omega
 ·have:=hb x (Qab hx); omega
theorem KOk.step {n:Nat} {c:Int} {g:List (List Int×Int)} {p:List Int×Int} {h:Int} (k:KOk n (c+1) g) (h1:p.1.length=n) (h2:∀ x∈p.1,0<=x/\x<=c) (h3:0 < p.2) (hh:0<=h/\h < n):KOk n (c+1) (iG lv g p h):=by
 unfold iG
 split
 ·exact k.put ((aEe (by omega)).trans h1) (aEf h2 (by omega)) (by have:=zC k (lA p.1 h.toNat); omega)
 ·exact k
theorem KOk.withP {n:Nat} {c:Int} {p:List Int×Int} (h1:p.1.length=n) (h2:∀ x∈p.1,0<=x/\x<=c) (h3:0 < p.2):∀ (tk:List Int) (g:List (List Int×Int)),(∀ h∈tk,0<=h/\h < n)->KOk n (c+1) g->KOk n (c+1) (withP lv tk g p)
 | [],g,_,k=>k
 | h::tk,g,ht,k=>KOk.withP h1 h2 h3 tk _ (λx hx=>ht x (Qk _ hx)) (k.step h1 h2 h3 (ht h (Qj ..)))
theorem KOk.fold {n:Nat} {c:Int} {tk:List Int} (ht:∀ h∈tk,0<=h/\h < n):∀ (R g:List (List Int×Int)),(∀ p∈R,p.1.length=n/\(∀ x∈p.1,0<=x/\x<=c)/\0 < p.2)->KOk n (c+1) g->KOk n (c+1) (R.foldl (λg p=>Ab.withP lv tk g p) g)
 | [],g,_,k=>k
 | p::R,g,hR,k=>KOk.fold ht R _ (λq hq=>hR q (Qk _ hq)) (KOk.withP (hR p (Qj ..)).1 (hR p (Qj ..)).2.1 (hR p (Qj ..)).2.2 tk g ht k)
theorem KOk.nil (n:Nat) (c:Int):KOk n c []:=⟨Ya,λ_ h=>(Qs h).elim,λ_ h=>(Qs h).elim⟩
theorem KOk.all {n:Nat} {c:Int} {R:List (List Int×Int)} (k:KOk n c R):∀ p∈R,p.1.length=n/\(∀ x∈p.1,0<=x/\x<=c)/\0 < p.2:=λp hp=>⟨(k.box p hp).1,(k.box p hp).2,k.pos p hp⟩
theorem KOk.withW {n:Nat} {c:Int} {tk:List Int} {R:List (List Int×Int)} (k:KOk n c R) (ht:∀ h∈tk,0<=h/\h < n):KOk n (c+1) (withW R tk lv):=KOk.fold ht R [] k.all (KOk.nil n _)
def gQ:List Int->Int
 | []=>0
 | x::l=>x+13*gQ l
theorem oJ:∀ {l:List Int},(∀ x∈l,0<=x/\x<=12)->0<=gQ l/\gQ l < 13^l.length
 | [],_=>⟨Xd _,by decide⟩
 | x::l,h=>by
  have h1:=h x (Qj ..)
  have h2:=oJ (l:=l) λy hy=>h y (Qk _ hy)
  have e:(13:Int)^(x::l).length=13^l.length*13:=by rw [Ja,Int.pow_succ]
  rw [e]
  unfold gQ
  omega
theorem sL:∀ {l m:List Int},l.length=m.length->(∀ x∈l,0<=x/\x<=12)->(∀ x∈m,0<=x/\x<=12)->gQ l=gQ m->l=m
 | [],[],_,_,_,_=>rfl
 | x::l,y::m,hl,h1,h2,e=>by
  have a1:=h1 x (Qj ..)
  have a2:=h2 y (Qj ..)
  unfold gQ at e
  have ex:x=y:=by omega
  have el:gQ l=gQ m:=by omega
  rw [ex,sL (by simpa using hl) (λz hz=>h1 z (Qk _ hz)) (λz hz=>h2 z (Qk _ hz)) el]
theorem KOk.len {n:Nat} (k:KOk n 12 m) (hn:n<=6):m.length<=4826809:=by
 have nd:((m.map (·.1)).map gQ).Nodup:=by
  refine List.pairwise_map.mpr (List.Pairwise.imp_of_mem (λ{x y} hx hy ne e=>ne ?_) k.nd)
  obtain ⟨p,hp,rfl⟩:=Qw.mp hx
  obtain ⟨q,hq,rfl⟩:=Qw.mp hy
  exact sL ((k.box p hp).1.trans (k.box q hq).1.symm) (k.box p hp).2 (k.box q hq).2 e
 have sub:∀ z∈(m.map (·.1)).map gQ,z∈(List.range 4826809).map Int.ofNat:=λz hz=>by
  obtain ⟨x,hx,rfl⟩:=Qw.mp hz
  obtain ⟨p,hp,rfl⟩:=Qw.mp hx
  have hb:=oJ (k.box p hp).2
  have hle:(13:Int)^p.1.length<=13^6:=by
   rw [(k.box p hp).1]
   rcases (show n=0∨n=1∨n=2∨n=3∨n=4∨n=5∨n=6 by omega) with e | e | e | e | e | e | e <;> rw [e] <;> decide
  have h6:(13:Int)^6=4826809:=by decide
  exact Qw.mpr ⟨(gQ p.1).toNat,Jw.mpr (by omega),by show ((gQ p.1).toNat:Int)=_; omega⟩
 have:=lW nd sub
 rw [Qb,Qb,Qb,Js] at this
 exact this
def Bt2 (a g:Addr) (H H':Hp):Prop:=∀ b u,b≠a->b≠g->H b=some u->H' b=some u
theorem Bt2.seqT {g:Addr} {R:List (List Key×V)} (e:Bt2 a g H H') (ha:H a=some (.dT R)) (hg:H g=none) (h:SqT K H c xs):SqT K H' c xs:=by
 rcases h with (h | ⟨o,h⟩) | h
 ·exact .inl (.inl (e c _ (λz=>by rw [z,ha] at h; cases h) (λz=>by rw [z,hg] at h; cases h) h))
 ·exact .inl (.inr ⟨o,e c _ (λz=>by rw [z,ha] at h; cases h) (λz=>by rw [z,hg] at h; cases h) h⟩)
 ·exact .inr h
theorem Bt2.seqL {g:Addr} {R:List (List Key×V)} (e:Bt2 a g H H') (ha:H a=some (.dT R)) (hg:H g=none) (h:SqL K H c xs):SqL K H' c xs:=by
 rcases h with (h | ⟨o,h⟩) | h
 ·exact .inl (.inl (e c _ (λz=>by rw [z,ha] at h; cases h) (λz=>by rw [z,hg] at h; cases h) h))
 ·exact .inl (.inr ⟨o,e c _ (λz=>by rw [z,ha] at h; cases h) (λz=>by rw [z,hg] at h; cases h) h⟩)
 ·exact .inr h
theorem wK:∀ {R:List (List Int×Int)} {i:Nat} {q:List Int×Int},(R.map (·.1)).Nodup->R[i]?=some q->kC R q.1=some q.2
 | [],i,q,_,h=>by simp at h
 | p::R,0,q,_,h=>by
  have e:p=q:=by simpa using h
  subst e
  simp [kC]
 | p::R,i+1,q,nd,h=>by
  have nd':p.1∉R.map (·.1)/\(R.map (·.1)).Nodup:=by rw [Qy] at nd; exact Xf.mp nd
  have h':R[i]?=some q:=by simpa using h
  have ne:p.1≠q.1:=λz=>nd'.1 (z ▸ Qw.mpr ⟨q,Qi h',rfl⟩)
  have ih:=wK nd'.2 h'
  unfold kC at ih ⊢
  rw [Xs,decide_eq_false ne]
  exact ih
def aBy (K:Rc):Sp:=λvs H Q _=>∃ (a l lp:Addr) (R:List (List Int×Int)) (tk lv:List Int) (c:Int),vs = [.ref a,.ref l,.ref lp]/\H a=some (.dT (enc R))/\SqL K H l (tk.map V.int)/\SqT K H lp (lv.map V.int)/\lv.length<=6/\KOk lv.length c R/\c<=11/\(∀ h∈tk,0<=h/\h < lv.length) /\
 ∀ g H',aD H H'->H g=none->H' g=some (.dT (enc (withW R tk lv)))->Q (.ref g) H'
theorem oK:FnScope ["rows", "takers", "levels", "grown", "many", "hand", "key"] ["rows", "takers", "levels"] (aG vW):=⟨rfl,rfl,rfl,by decide +kernel,rfl,by decide +kernel,by decide +kernel⟩
set_option maxHeartbeats 2000000 in
theorem aEg (G:Fn K mg "with_work" vW ["rows", "takers", "levels"] f fd) (B:Bl mg):FnOk P w K mg base CX0 1 f fd ["rows", "takers", "levels"] (aBy K):=by
 refine G.fn.ok oK (λvs H Q E h=>?_) (λcdv A outer s H vs Q E hr h=>?_)
 ·obtain ⟨a,l,lp,R,tk,lv,c,rfl,_⟩:=h
  rfl
 ·obtain ⟨a,l,lp,R,tk,lv,c,rfl,ha,hl,hlp,h6,hK,hc11,htk,k⟩:=h
  have hR:∀ p∈R,p.1.length=lv.length:=λp hp=>(hK.box p hp).1
  have hnd:=hK.nd
  refine ⟨_,(aE (aS (i:=3) oK.nd rfl (Or.inl rfl) aDm)
   (aE (aDF (eF PassesOwn.never rfl (rK (pv 0)) (aK (i:=4) oK.nd rfl (Or.inl rfl))
    (aJ (eF PassesOwn.never rfl (eZ (pv 1)) (aK (i:=5) oK.nd rfl (Or.inl rfl))
     (aJ (cJ (bE qT (aZ (cN (K:=K) rfl) (pv 4) (pv 5) (λ_ _=>rfl)) (aZ (cN (K:=K) rfl) (pv 2) (pv 5) (λ_ _=>rfl)) (bD _))
      (aE (aS (i:=6) oK.nd rfl (Or.inl rfl) (bH (aBa (K:=K) rfl) (bH (aBa (K:=K) rfl) (eW (jV (K:=K) rfl) (pv 4) gR (gS (pv 5))) (cH (aA (bH cV (aZ (cN (K:=K) rfl) (pv 4) (pv 5) (λ_ _=>rfl)) aI) aC))) (eW (jV (K:=K) rfl) (pv 4) (gS (bH cV (pv 5) aI)) gR)))
      (aJ (vE (kU hr) (pv 3) (pv 6) (bH cV (nH Me Mr PySem.F.type_dict_get (aE8 (kU hr)) (pv 3) (aA (pv 6) (aA aI aC))) (nK (kU hr) (pv 0) (pv 4) (λ_ _=>rfl))) rfl)))
      bI))))))
   (aJ (aX (pv 3))))),?_⟩
  intro g hg
  have nga:g≠a:=λz=>by rw [z,ha] at hg; cases hg
  refine ⟨_,rfl,a,enc R,rfl,by rw [aH (Ne.symm nga)]; exact ha,λo nf=>?_⟩
  have hRl:(enc R).length=R.length:=Qb ..
  have b0:Bt2 a g H (upd (upd H g (.dT [])) a (.frz o (.dT (enc R)))):=λb u n1 n2 h=>by rw [aH n1,aH n2]; exact h
  have f0:upd (upd H g (.dT [])) a (.frz o (.dT (enc R))) a=some (.frz o (.dT (enc R))):=aB
  have g0:upd (upd H g (.dT [])) a (.frz o (.dT (enc R))) g=some (.dT (enc [])):=by rw [aH nga,aB]; rfl
  generalize upd (upd H g (.dT [])) a (.frz o (.dT (enc R)))=H1 at b0 f0 g0 ⊢
  refine aCi (λi σ H2=>(∃ v4 v5 v6,σ = [some (.ref a),some (.ref l),some (.ref lp),some (.ref g),v4,v5,v6])/\Bt2 a g H H2/\H2 a=some (.frz o (.dT (enc R)))/\H2 g=some (.dT (enc (withW (R.take i) tk lv)))) ⟨⟨_,_,_,rfl⟩,b0,f0,g0⟩ (λi σ H2 _ h=>h.2.2.1) ?_ ?_
  ·rintro i p b σ H2 hp hb ⟨⟨v4,v5,v6,rfl⟩,b2,f2,g2⟩
   obtain ⟨q,hq,rfl⟩:∃ q,R[i]?=some q/\(q.1.map Sum.inl,V.int q.2)=p:=by
    unfold enc at hp
    rw [Qe] at hp
    cases hz:R[i]? with
    | none=>rw [hz] at hp; cases hp
    | some q=>rw [hz] at hp; exact ⟨q,rfl,Option.some.inj hp⟩
   have hi:i < R.length:=(Qd.mp hq).1
   have hql:=hR q (Qi hq)
   have hb':H2 b=some (.tup (q.1.map V.int)):=by rw [<- pN]; exact hb
   have hGk:KOk lv.length (c+1) (withW (R.take i) tk lv):=KOk.fold htk (R.take i) [] (λp hp=>hK.all p (Xh hp)) (KOk.nil _ _)
   have hqa:=hK.all q (Qi hq)
   have hnext:=aAI R tk lv hq
   generalize withW (R.take i) tk lv=G at g2 hGk hnext
   dsimp only [fV]
   refine ⟨_,rfl,l,rfl,⟨_,b2.seqL ha hg hl⟩,jO (K:=K) (xs:=tk.map V.int) (λj σ H3=>(∃ v5 v6,σ = [some (.ref a),some (.ref l),some (.ref lp),some (.ref g),some (.ref b),v5,v6])/\Bt2 a g H H3/\H3 a=some (.frz o (.dT (enc R)))/\H3 b=some (.tup (q.1.map V.int))/\H3 g=some (.dT (enc (withP lv (tk.take j) G q)))) ⟨⟨_,_,rfl⟩,b2,f2,hb',g2⟩ (λj σ H3 _ h=>h.2.1.seqL ha hg hl) ?_ ?_⟩
   ·rintro j x σ H3 hx ⟨⟨w5,w6,rfl⟩,b3,f3,hb3,g3⟩
    obtain ⟨h,hh,rfl⟩:∃ h,tk[j]?=some h/\V.int h=x:=by
     rw [Qe] at hx
     cases hz:tk[j]? with
     | none=>rw [hz] at hx; cases hx
     | some h=>rw [hz] at hx; exact ⟨h,rfl,Option.some.inj hx⟩
    have hj:j < tk.length:=(Qd.mp hh).1
    have hhr:=htk h (Qi hh)
    obtain ⟨hn,rfl⟩:∃ hn:Nat,h=hn:=⟨h.toNat,by omega⟩
    have hnl:hn < lv.length:=by omega
    have hPk:=KOk.withP (lv:=lv) hqa.1 hqa.2.1 hqa.2.2 (tk.take j) G (λh hh=>htk h (Xh hh)) hGk
    have hPl:=KOk.len ⟨hPk.nd,λp hp=>⟨(hPk.box p hp).1,λx hx=>by have:=(hPk.box p hp).2 x hx; omega⟩,hPk.pos⟩ h6
    have hstep:=aAH lv tk G q hh
    clear hPk
    generalize withP lv (tk.take j) G q=G3 at g3 hPl hstep
    have at1:atI (q.1.map V.int) (hn:Int)=some (.int (q.1.getD hn 0)):=cF (by rw [Qe,Qu,Qc (by omega)]; rfl)
    have at2:atI (lv.map V.int) (hn:Int)=some (.int (lv.getD hn 0)):=cF (by rw [Qe,Qu,Qc hnl]; rfl)
    have hml:(q.1.map V.int).length=q.1.length:=Qb ..
    refine ⟨_,rfl,_,rfl,b,_,(hn:Int),_,rfl,rfl,SqT.of hb3,at1,_,rfl,_,rfl,lp,_,(hn:Int),_,rfl,rfl,b3.seqT ha hg hlp,at2,_,_,rfl,rfl,_,rfl,?_⟩
    refine cU (λc1=>?_) (λc1=>?_)
    ·have c2:q.1.getD hn 0<=lv.getD hn 0:=of_decide_eq_true c1
     have est:iG lv G3 q (hn:Int)=kD G3 (lA q.1 hn) ((kC G3 (lA q.1 hn)).getD 0+q.2):=by unfold iG; rw [Jj,if_pos c2]
     refine ⟨_,rfl,_,rfl,_,rfl,b,_,rfl,SqT.of hb3,λr1 H4 s4 g4=>?_⟩
     rw [kJ] at g4
     refine ⟨_,rfl,_,rfl,b,_,(hn:Int),_,rfl,rfl,SqT.of (s4 _ _ hb3),at1,_,_,rfl,rfl,sz1 _,λr2 hr2=>?_⟩
     have s5:=aD.new (o:=.tup [.int (q.1.getD hn 0+1)]) hr2
     refine aE9 (s5.seqT g4) aB (by rw [Qv]; omega) λr3 H6 s6 e6=>?_
     have s36:=s4.trans (s5.trans s6)
     refine ⟨_,rfl,_,rfl,_,_,rfl,rfl,_,rfl,b,_,rfl,SqT.of (s36 _ _ hb3),λr4 H7 s7 g7=>?_⟩
     rw [show (hn:Int)+1=((hn+1:Nat):Int) by omega,jS] at g7
     refine aDK (s7 _ _ e6) (by simp) g7 (by rw [Qq,Qv,Jy]; show _+1+_<=_; omega) λkp H8 s8 e8=>?_
     have s38:=s36.trans (s7.trans s8)
     have e9:H8 kp=some (.tup (((lA q.1 hn).map Sum.inl).map kV)):=by
      rw [pN,e8]
      unfold lA
      rw [Qp,Qp,Zx,Yv]
      rfl
     have g8:=s38 _ _ g3
     have hv1:(dJ (enc G3) ((lA q.1 hn).map Sum.inl)).getD (.int 0)=.int ((kC G3 (lA q.1 hn)).getD 0):=by rw [sK]; cases kC G3 (lA q.1 hn) <;> rfl
     have hv2:some (V.int q.2)=dJ (enc R) (q.1.map Sum.inl):=by rw [sK,wK hnd hq]; rfl
     dsimp only [fV]
     refine ⟨_,rfl,.inr (.inr (.inl ⟨rfl,.inr ⟨_,g8⟩⟩)),_,rfl,g,kp,enc G3,(lA q.1 hn).map Sum.inl,.int 0,rfl,rfl,.inl g8,e9,?_⟩
     rw [hv1]
     refine ⟨_,rfl,_,rfl,a,.int q.2,rfl,.inr ⟨enc R,q.1.map Sum.inl,b,.inr ⟨o,s38 _ _ f3⟩,rfl,by rw [pN]; exact s38 _ _ hb3,hv2⟩,_,_,rfl,rfl,?_⟩
     refine ⟨_,rfl,_,rfl,g,_,rfl,vD.t g8 e9 (by unfold enc; rw [Qb,Rf]; omega),?_⟩
     rw [aEd,<- est,<- hstep]
     have nba:b≠g:=λz=>by rw [z,g3] at hb3; cases hb3
     refine ⟨⟨_,_,rfl⟩,λc u n1 n2 hc=>?_,?_,?_,aB⟩
     ·rw [aH n2]
      exact s38 _ _ (b3 c u n1 n2 hc)
     ·rw [aH (Ne.symm nga)]
      exact s38 _ _ f3
     ·rw [aH nba]
      exact s38 _ _ hb3
    ·have c2:¬ q.1.getD hn 0<=lv.getD hn 0:=λz=>c1 (decide_eq_true z)
     have est:iG lv G3 q (hn:Int)=G3:=by unfold iG; rw [Jj,if_neg c2]
     rw [est] at hstep
     exact ⟨⟨_,_,rfl⟩,b3,f3,hb3,by rw [hstep]; exact g3⟩
   ·rintro σ H3 ⟨⟨w5,w6,rfl⟩,b3,f3,hb3,g3⟩
    rw [Qb,Jf] at g3
    exact ⟨⟨_,_,_,rfl⟩,b3,f3,by rw [hnext]; exact g3⟩
  ·rintro σ H2 ⟨⟨v4,v5,v6,rfl⟩,b2,f2,g2⟩
   rw [hRl,Jf] at g2
   refine ⟨a,o,enc R,f2,nf,?_⟩
   refine ⟨_,rfl,k g _ (λb u h=>?_) hg (by rw [aH nga]; exact g2)⟩
   by_cases hba:b=a
   ·rw [hba] at h ⊢
    rw [aB,<- ha,h]
   ·rw [aH hba]
    exact b2 b u hba (λz=>by rw [z,hg] at h; cases h) h
end Ab
namespace L2
open PySem
theorem aFt (k1 k2:Sk) {a b:Expr} {ta:TA} (hK:X.K=K) (hg:Gl X "zip") (hm:X.mg "zip" = none) (ha:PA X [a,b] ta) (hs:starEach [a,b] X.env = [(false,eval a X.env),(false,eval b X.env)]:=by rfl) (hs2:starEach [b] X.env = [(false,eval b X.env)]:=by rfl) :
  PI X (.Tuple es x1 tpos) (.Call (.Name "zip" p) [a,b] [] pos) (aHf K k1 k2 ta):=by subst hK; exact zX k1 k2 hg hm ha hs hs2
theorem aCz (hK:X.K=K) (hc:X.calm=true):dM X (.builtin "all") (λxs H Q=>∃ (p:Addr) (bs:List Bool),xs = [.ref p]/\SqL K H p (bs.map V.bl)/\Q (.bl (bs.all id)) H):=by subst hK; exact gY hc
end L2
namespace Ab
open PySem L2
def dI (lv l:List Int):List Int:=l.filter λh=>decide (∀ j∈l,lv.getD h.toNat 0<=lv.getD j.toNat 0)
def cR (n:Nat) (lv:List Int) (ws:List (List Int)):List (List Int×Int):=ws.foldl (λR l=>withW R (dI lv l) lv) [(List.replicate n 0,1)]
def eU (n:Nat) (lv:List Int) (ws:List (List Int)):List (List Int×Int):=(cR n lv ws).filter λp=>(p.1.zip lv).all λq=>decide (q.2<=q.1)
theorem lP (n:Nat) (lv:List Int) (ws:List (List Int)) {i:Nat} (e:ws[i]?=some l):cR n lv (ws.take (i+1))=withW (cR n lv (ws.take i)) (dI lv l) lv:=by
 unfold cR
 rw [Jd,e,Zo]
 rfl
theorem iT (n:Nat) (lv:List Int) (ws:List (List Int)) (hw:∀ l∈ws,∀ h∈l,0<=h/\h < (n:Int)):∀ i:Nat,i<=ws.length->KOk n i (cR n lv (ws.take i))
 | 0,_=>by
  refine ⟨by simp [cR],λp hp=>?_,λp hp=>?_⟩
  ·have e:p=(List.replicate n 0,1):=by simpa [cR] using hp
   subst e
   exact ⟨Xn,λx hx=>by rw [Wk hx]; exact ⟨Xd _,Xd _⟩⟩
  ·have e:p=(List.replicate n 0,1):=by simpa [cR] using hp
   subst e
   show (0:Int) < 1
   decide
 | i+1,h=>by
  have hi:i < ws.length:=by omega
  rw [lP n lv ws (Qc hi)]
  have k:=iT n lv ws hw i (by omega)
  exact k.withW λh hh=>hw _ (Xb hi) h (Jz.mp hh).1
def aGJ:Scope:=match (eK iX).getD 3 (.Pass ⟨0,0,0,0⟩) with
 | .Return (some (.DictComp _ _ _ sc _)) _=>sc
 | _=>aG iX
theorem aAJ {M:Int} (h1:M∈l.map λh=>lv.getD h.toNat 0) (h2:∀ a∈l.map λh=>lv.getD h.toNat 0,M<=a):(l.filter λh=>decide (lv.getD h.toNat 0=M))=dI lv l:=by
 unfold dI
 refine List.filter_congr λh hh=>decide_eq_decide.mpr ⟨λe j hj=>?_,λe=>?_⟩
 ·rw [e]
  exact h2 _ (Qw.mpr ⟨j,hj,rfl⟩)
 ·obtain ⟨j,hj,ej⟩:=Qw.mp h1
  have:=e j hj
  have:=h2 _ (Qw.mpr ⟨h,hh,rfl⟩)
  omega
def qQ (K:Rc) (Pt:Addr):Sp:=λvs H Q _=>∃ (x:V) (n:Int) (ws:List (List Int)),vs = [x]/\Den K H (aV n ws) x/\bC (aV n ws)=true/\H Pt=some (.tab oC) /\
 ∀ (p:Addr) (hs lv:List Int) H',aD H H'->bJ ws (bA hs)=true->eJ n ws hs lv->H' p=some (.dT (enc (eU n.toNat lv ws)))->Q (.ref p) H'
theorem mE:FnScope ["book", "levels", "rows", "able", "least"] ["book"] (aG iX):=⟨rfl,rfl,rfl,by decide +kernel,rfl,by decide +kernel,by decide +kernel⟩
set_option maxHeartbeats 4000000 in
theorem aEh {fWW:Addr} {dWW:FuncData} (G:Fn K mg "even_loads" iX ["book"] f fd) (B:Bl mg) (GEv:Fn K mg "evenest" jX ["book"] fE dE) (OEv:FnOk P w K mg base CX0 11 fE dE ["book"] (mD K Pt)) (GWW:Fn K mg "with_work" vW ["rows", "takers", "levels"] fWW dWW):FnOk P w K mg base CX0 12 f fd ["book"] (qQ K Pt):=by
 have OWW:FnOk P w K mg base CX0 1 fWW dWW ["rows", "takers", "levels"] (aBy K):=aEg GWW B
 refine G.fn.ok mE (λvs H Q E h=>?_) (λcdv A outer s H vs Q E hr h=>?_)
 ·obtain ⟨x,n,ws,rfl,_⟩:=h
  rfl
 ·obtain ⟨x,n,ws,rfl,hx,hb,hP,k⟩:=h
  have r11:Room 11 _:=hr
  have r1:Room 1 _:=hr.mono (by decide)
  refine ⟨_,(aE (aS (i:=1) mE.nd rfl (Or.inr rfl) (aZ (cN (K:=K) rfl) (bF GEv OEv r11 rfl (aA (pv 0) aC)) aI (λ_ _=>rfl)))
   (aE (aS (i:=2) mE.nd rfl (Or.inr rfl) (aCj (kU hr) (bH aFa (cH (aA aI aC)) (aZ (cN (K:=K) rfl) (pv 0) aI (λ_ _=>rfl))) aI))
   (aE (eF PassesOwn.never rfl (gB (aZ (cN (K:=K) rfl) (pv 0) aI (λ_ _=>rfl))) (aK (i:=3) mE.nd rfl (Or.inl rfl))
    (aE (aS (i:=4) mE.nd rfl (Or.inr rfl) (aM (aBZ rfl) rfl B.min aHh (aA (cB (own:=["hand"]) (fr:=[1]) (frn:=["levels"]) (bG (aG iX) ["book", "levels", "rows", "able", "least"] rfl rfl (by decide +kernel)) rfl (gB (pv 3))
      (λ_ _ _ _=>aK (i:=0) (show (["hand", "levels"]:List Str).Nodup by decide +kernel) rfl (Or.inl rfl)) (λ_ _ _ _=>dO) (λ_ _ _ _=>aZ (cN (K:=K) rfl) (pv 1) (pv 0) (λ_ _=>rfl))) aC)))
    (aJ (aS (i:=2) mE.nd rfl (Or.inr rfl) (bF GWW OWW r1 rfl (aA (pv 2) (aA (cB (own:=["hand"]) (fr:=[1,4]) (frn:=["levels", "least"]) (bG (aG iX) ["book", "levels", "rows", "able", "least"] rfl rfl (by decide +kernel)) rfl (gB (pv 3))
      (λ_ _ _ _=>aK (i:=0) (show (["hand", "levels", "least"]:List Str).Nodup by decide +kernel) rfl (Or.inl rfl)) (λ_ _ _ _=>mW (bE gC (aZ (cN (K:=K) rfl) (pv 1) (pv 0) (λ_ _=>rfl)) (pv 2) (bD _))) (λ_ _ _ _=>pv 0)) (aA (pv 1) aC))))))))
   (aJ (aX (aCl (kU hr) (own:=["many"]) (fr:=[1,2]) (frn:=["levels", "rows"]) (bG (aG iX) ["book", "levels", "rows", "able", "least"] rfl rfl (by decide +kernel)) rfl (pv 2)
     (λ_ _ _ _=>aK (i:=0) (show (["many", "levels", "rows"]:List Str).Nodup by decide +kernel) rfl (Or.inl rfl))
     (λ_ _ _ _=>mW (eC (aM (aCz (K:=K) rfl rfl) rfl B.all pY (aA (cB (own:=["load", "level"]) (fr:=[]) (frn:=[]) (bG (aEL aGJ (aG iX)) ["many", "levels", "rows"] rfl rfl (by decide +kernel)) rfl (aFt (K:=K) .t .t rfl rfl B.zip (aA (pv 0) (aA (pv 1) aC)))
       (λ_ _ _ _=>nX (K:=K) (n:=2) rfl rfl (aU (aK (i:=0) (show (["load", "level"]:List Str).Nodup by decide +kernel) rfl (Or.inl rfl)) (aU (aK (i:=1) (show (["load", "level"]:List Str).Nodup by decide +kernel) rfl (Or.inl rfl)) cP))) (λ_ _ _ _=>dO) (λ_ _ _ _=>fI wT (pv 0) (pv 1) (bD _))) aC))))
     (λ_ _ _ _=>pv 0) (λ_ _ _ _=>nK (kU hr) (pv 2) (pv 0) (λ_ _=>rfl)))))))),?_⟩
  obtain ⟨hn1,hn6,hw12,hws⟩:=bB hb
  refine ⟨_,rfl,x,n,ws,rfl,hx,hb,hP,λp dp lp hs lv H1 s1 hp hdp hd hlp L=>?_⟩
  refine ⟨p,_,1,.ref lp,rfl,rfl,SqT.of hp,rfl,?_⟩
  obtain ⟨ba,bb,ys,rfl,ha,hb2,hys⟩:=cY (s1.den _ _ hx)
  have hlw:=aN hys
  rw [Qb] at hlw
  intro r0 hr0
  refine ⟨sz1 _,λz0 hz0=>?_⟩
  have s2:=aD.new (o:=.dT []) hr0
  have s3:=aD.new (o:=.tup [.int 0]) hz0
  refine ⟨_,rfl,ba,_,0,.int n,rfl,rfl,(s2.trans s3).seqT ha,rfl,?_⟩
  refine ⟨z0,n.toNat,[.int 0],rfl,by rw [Zt (by omega)],aB,by simp,by omega,by omega,by decide,λkp H3 s4 e3=>?_⟩
  have r3:H3 r0=some (.dT []):=(s3.trans s4) _ _ aB
  rw [Yj] at e3
  refine ⟨(List.replicate n.toNat 0).map Sum.inl,kp,rfl,by rw [pN,List.map_replicate]; exact e3,r3,?_⟩
  have s13:aD H1 (upd H3 r0 (.dT [((List.replicate n.toNat 0).map Sum.inl,.int 1)])):=λb u h=>by
   rw [aH (λz=>by rw [z,hr0] at h; cases h)]
   exact (s2.trans (s3.trans s4)) _ _ h
  have e4:upd H3 r0 (.dT [((List.replicate n.toNat 0).map Sum.inl,.int 1)]) r0=some (.dT (enc (cR n.toNat lv (ws.take 0)))):=aB
  generalize upd H3 r0 (.dT [((List.replicate n.toNat 0).map Sum.inl,.int 1)])=H4 at s13 e4 ⊢
  have hwr:∀ l∈ws,∀ h∈l,0<=h/\h < ((n.toNat:Nat):Int):=λl hl h hh=>by have:=(bL (hws l hl)).2.1 h hh; omega
  have hlvl:lv.length=n.toNat:=L.1
  dsimp only [fV]
  refine ⟨_,rfl,ba,_,1,.ref bb,rfl,rfl,s13.seqT ha,rfl,bb,rfl,⟨_,s13.seqT hb2⟩,lU (K:=K) (a:=bb) (xs:=ys) (λi σ H5=>∃ (rp:Addr) (v3 v4:Option V),σ = [some (.ref ba),some (.ref lp),some (.ref rp),v3,v4]/\H5 rp=some (.dT (enc (cR n.toNat lv (ws.take i))))/\aD H1 H5) ⟨r0,_,_,rfl,e4,s13⟩ (λi σ H5 _ ⟨_,_,_,_,_,s5⟩=>s5.seqT hb2) ?_ ?_⟩
  ·rintro i y σ H5 hy ⟨rp,v3,v4,rfl,e5,s5⟩
   obtain ⟨dv,hdv,denv⟩:=bU hys hy
   rw [Qe] at hdv
   obtain ⟨l,hl,rfl⟩:∃ l,ws[i]?=some l/\bM l=dv:=by
    cases q:ws[i]? with
    | none=>rw [q] at hdv; cases hdv
    | some l=>rw [q] at hdv; exact ⟨l,rfl,Option.some.inj hdv⟩
   obtain ⟨pw,rfl,hpw⟩:=aP.mp denv
   have hiw:i < ws.length:=(Qd.mp hl).1
   obtain ⟨l0,lr,l6⟩:=bL (hws l (Qi hl))
   have hlr:=hwr l (Qi hl)
   have hml:(l.map V.int).length=l.length:=Qb ..
   have hl12:l.length<=12:=by
    have z:=lW (l:=l) (m:=(List.range n.toNat).map Int.ofNat) (l6.imp λ{a b} h=>by omega) λh hh=>Qw.mpr ⟨h.toNat,Jw.mpr (by have:=hlr h hh; omega),by have:=hlr h hh; show ((h.toNat:Nat):Int)=h; omega⟩
    rw [Qb,Js] at z
    omega
   have atl:∀ h∈l,atI (lv.map V.int) h=some (.int (lv.getD h.toNat 0)):=λh hh=>by
    have hr0:=hlr h hh
    obtain ⟨m,rfl⟩:∃ m:Nat,h=m:=⟨h.toNat,by omega⟩
    exact cF (by rw [Qe,Jj,Qu,Qc (by omega)]; rfl)
   refine ⟨_,rfl,pw,rfl,⟨_,s5.seqT hpw⟩,xK (K:=K) (a:=pw) (xs:=l.map V.int) (vs:=(l.map λh=>lv.getD h.toNat 0).map V.int) (λσ=>∃ v,σ = [v,some (.ref lp)]) (by omega) (by rw [Qb,Qb,Qb]) (s5.seqT hpw) ⟨none,rfl⟩ ?_ ?_⟩
   ·rintro j xv v σ H6 hxv hv ⟨v0,rfl⟩ s6 Q' hQ'
    rw [Qe] at hxv
    rw [Qe,Qe] at hv
    cases hlj:l[j]? with
    | none=>rw [hlj] at hxv; cases hxv
    | some h =>
     rw [hlj] at hxv hv
     obtain rfl:V.int h=xv:=Option.some.inj hxv
     obtain rfl:V.int (lv.getD h.toNat 0)=v:=Option.some.inj hv
     exact ⟨_,rfl,_,rfl,lp,_,h,_,rfl,rfl,SqT.of ((s5.trans s6) _ _ hlp),atl h (Qi hlj),hQ' _ _ ⟨_,rfl⟩ (aD.refl _)⟩
   ·rintro H6 s6 z hz
    refine ⟨z,_,rfl,SqL.of aB,by rw [Qb]; exact Xl.mpr l0,λM hM hmin=>?_⟩
    have s7:=s6.trans (aD.new (o:=.lst ((l.map λh=>lv.getD h.toNat 0).map V.int)) hz)
    generalize upd H6 z (.lst ((l.map λh=>lv.getD h.toNat 0).map V.int))=H7 at s7 ⊢
    have s17:=s5.trans s7
    have hK:=iT n.toNat lv ws hwr i (by omega)
    refine ⟨_,rfl,_,rfl,pw,rfl,⟨_,s17.seqT hpw⟩,jT (K:=K) (a:=pw) (xs:=l.map V.int) (λσ=>∃ v,σ = [v,some (.ref lp),some (.int M)]) (λj zs H8=>H8=H7/\zs=((l.take j).filter λh=>decide (lv.getD h.toNat 0=M)).map V.int) (cZ (by omega)) ⟨none,rfl⟩ ⟨rfl,rfl⟩ ?_ ?_ ?_ ?_⟩
    ·rintro j zs H8 ⟨rfl,rfl⟩
     rw [Qb]
     exact Je (Xo ..) (by rw [Qv]; omega)
    ·rintro j zs H8 ⟨rfl,rfl⟩
     exact s17.seqT hpw
    ·rintro j zs σ xv H8 hxv ⟨v0,rfl⟩ ⟨rfl,rfl⟩ hz8
     rw [Qe] at hxv
     cases hlj:l[j]? with
     | none=>rw [hlj] at hxv; cases hxv
     | some h =>
      rw [hlj] at hxv
      obtain rfl:V.int h=xv:=Option.some.inj hxv
      have et:(l.take (j+1)).filter (λh=>decide (lv.getD h.toNat 0=M))=(l.take j).filter (λh=>decide (lv.getD h.toNat 0=M))++([h].filter λh=>decide (lv.getD h.toNat 0=M)):=by rw [Jd,hlj,Xj]; rfl
      refine ⟨_,rfl,_,rfl,lp,_,h,_,rfl,rfl,SqT.of (s17 _ _ hlp),atl h (Qi hlj),_,rfl,rfl,_,rfl,?_⟩
      refine cU (λc1=>?_) (λc1=>?_)
      ·have c2:lv.getD h.toNat 0=M:=by
        have z:=of_decide_eq_true c1
        injection z
       refine ⟨_,rfl,hz8,⟨_,rfl⟩,rfl,?_⟩
       rw [et,Qp,Xg,if_pos (decide_eq_true c2)]
       rfl
      ·have c2:¬ lv.getD h.toNat 0=M:=λz=>c1 (decide_eq_true (by rw [z]))
       refine ⟨⟨_,rfl⟩,rfl,?_⟩
       rw [et,Xg,if_neg (λz=>c2 (of_decide_eq_true z))]
       simp
    ·rintro zs H8 ⟨rfl,rfl⟩ z2 hz2
     rw [hml,Jf,aAJ hM hmin]
     have s8:=aD.new (o:=.lst ((dI lv l).map V.int)) hz2
     have s18:=s17.trans s8
     refine ⟨_,rfl,rp,z2,lp,_,dI lv l,lv,(i:Int),rfl,(s7.trans s8) _ _ e5,SqL.of aB,SqT.of (s18 _ _ hlp),by omega,by rw [hlvl]; exact hK,by omega,λh hh=>by rw [hlvl]; exact hlr h (Jz.mp hh).1,λg H9 s9 hg e9=>?_⟩
     exact ⟨g,_,_,rfl,by rw [lP n.toNat lv ws hl]; exact e9,s18.trans s9⟩
  ·rintro σ H5 ⟨rp,v3,v4,rfl,e5,s5⟩
   rw [hlw,Jf] at e5
   have hKw:=iT n.toNat lv ws hwr ws.length (Qh _)
   rw [Jf] at hKw
   have hev:eU n.toNat lv ws=(cR n.toNat lv ws).filter λp=>(p.1.zip lv).all λq=>decide (q.2<=q.1):=rfl
   have hRl:=KOk.len ⟨hKw.nd,λp hp=>⟨(hKw.box p hp).1,λx hx=>by have:=(hKw.box p hp).2 x hx; omega⟩,hKw.pos⟩ (show n.toNat<=6 by omega)
   generalize cR n.toNat lv ws=R at e5 hKw hev hRl
   have hel:(enc R).length=R.length:=Qb ..
   refine ⟨_,rfl,rp,enc R,rfl,e5,λo=>?_⟩
   have f6:upd H5 rp (.frz o (.dT (enc R))) rp=some (.frz o (.dT (enc R))):=aB
   have b6:∀ b u,b≠rp->H5 b=some u->upd H5 rp (.frz o (.dT (enc R))) b=some u:=λb u nb h=>by rw [aH nb]; exact h
   generalize upd H5 rp (.frz o (.dT (enc R)))=H6 at f6 b6 ⊢
   have nlp:lp≠rp:=λz=>by have y:=s5 _ _ hlp; rw [z,e5] at y; cases y
   refine yC (λσ=>∃ v,σ = [v,some (.ref lp),some (.ref rp)]) (λi ys H7=>ys.map kvE=enc ((R.take i).filter λp=>(p.1.zip lv).all λq=>decide (q.2<=q.1))/\Kp ys H7/\H7 rp=some (.frz o (.dT (enc R)))/\∀ b u,b≠rp->H5 b=some u->H7 b=some u) (by rw [hel,Rf]; omega) ⟨none,rfl⟩ ⟨rfl,λ_ h=>(Qs h).elim,f6,b6⟩ ?_ (λi ys H7 h=>⟨h.2.2.1,h.2.1⟩) ?_ ?_
   ·rintro i ys H7 ⟨he,_⟩
    have z:=congrArg Yk he
    unfold enc at z
    rw [Qb,Qb] at z
    have z2:=Xo (λp:List Int×Int=>(p.1.zip lv).all λq=>decide (q.2<=q.1)) (R.take i)
    rw [Qv] at z2
    omega
   ·rintro i ys σ p b H7 hp hb ⟨v,rfl⟩ ⟨he,hkp,f7,b7⟩ hz
    obtain ⟨q,hq,rfl⟩:∃ q,R[i]?=some q/\(q.1.map Sum.inl,V.int q.2)=p:=by
     unfold enc at hp
     rw [Qe] at hp
     cases hz:R[i]? with
     | none=>rw [hz] at hp; cases hp
     | some q=>rw [hz] at hp; exact ⟨q,rfl,Option.some.inj hp⟩
    have hql:=(hKw.box q (Qi hq)).1
    have hb':H7 b=some (.tup (q.1.map V.int)):=by rw [<- pN]; exact hb
    have hlp7:H7 lp=some (.tup (lv.map V.int)):=b7 _ _ nlp (s5 _ _ hlp)
    have et:(R.take (i+1)).filter (λp=>(p.1.zip lv).all λq=>decide (q.2<=q.1))=(R.take i).filter (λp=>(p.1.zip lv).all λq=>decide (q.2<=q.1))++([q].filter λp=>(p.1.zip lv).all λq=>decide (q.2<=q.1)):=by rw [Jd,hq,Xj]; rfl
    refine ⟨_,rfl,_,rfl,b,lp,_,_,rfl,SqT.of hb',SqT.of hlp7,aCh (K:=K) (k1:=.t) (k2:=.t) (a:=b) (b:=lp) (xs:=q.1.map V.int) (zs:=lv.map V.int) (vs:=((q.1.zip lv).map λr=>decide (r.2<=r.1)).map V.bl) (λσ=>∃ v0 v1,σ = [v0,v1]) (by rw [Qb]; omega) (by rw [Qb,Qb]; omega) (by rw [Qb,Qb,Qb,List.length_zip]; omega) (λH' s'=>⟨SqT.of (s' _ _ hb'),SqT.of (s' _ _ hlp7)⟩) ⟨none,none,rfl⟩ ?_ ?_⟩
    ·rintro j xv zv v pr σ H8 hxv hzv hv hpr ⟨v0,v1,rfl⟩ s8 Q' hQ'
     rw [Qe] at hxv hzv
     cases h1:q.1[j]? with
     | none=>rw [h1] at hxv; cases hxv
     | some x1 =>
      cases h2:lv[j]? with
      | none=>rw [h2] at hzv; cases hzv
      | some x2 =>
       rw [h1] at hxv
       rw [h2] at hzv
       obtain rfl:V.int x1=xv:=Option.some.inj hxv
       obtain rfl:V.int x2=zv:=Option.some.inj hzv
       rw [Qe,Qe,(Jl (z:=(x1,x2))).mpr ⟨h1,h2⟩] at hv
       obtain rfl:V.bl (decide (x2<=x1))=v:=Option.some.inj hv
       refine ⟨pr,_,rfl,SqT.of aB,rfl,_,_,rfl,_,_,rfl,rfl,?_⟩
       refine ⟨_,rfl,_,rfl,_,_,rfl,rfl,?_⟩
       exact hQ' _ _ ⟨_,_,rfl⟩ (aD.new hpr)
    ·rintro H8 s8 z hz8
     refine ⟨z,_,rfl,SqL.of aB,_,rfl,?_⟩
     have s9:=s8.trans (aD.new (o:=.lst (((q.1.zip lv).map λr=>decide (r.2<=r.1)).map V.bl)) hz8)
     generalize upd H8 z (.lst (((q.1.zip lv).map λr=>decide (r.2<=r.1)).map V.bl))=H9 at s9 ⊢
     have ec:((q.1.zip lv).map λr=>decide (r.2<=r.1)).all id=(q.1.zip lv).all λr=>decide (r.2<=r.1):=by rw [Ye]; rfl
     rw [ec]
     have kp9:Kp ys H9:=λe h=>s9 _ _ (hkp e h)
     have b9:∀ b u,b≠rp->H5 b=some u->H9 b=some u:=λb u nb h=>s9 _ _ (b7 b u nb h)
     by_cases hc:((q.1.zip lv).all λr=>decide (r.2<=r.1))=true
     ·rw [hc]
      refine fZ ?_
      refine ⟨_,rfl,_,rfl,_,rfl,rp,.int q.2,rfl,.inr ⟨enc R,q.1.map Sum.inl,b,.inr ⟨o,s9 _ _ f7⟩,rfl,s9 _ _ hb,by rw [sK,wK hKw.nd hq]; rfl⟩,?_⟩
      refine ⟨q.1.map Sum.inl,b,rfl,s9 _ _ hb,kp9,λhm=>?_,hz,⟨_,rfl⟩,?_,λe h=>?_,s9 _ _ f7,b9⟩
      ·have e1:ys.map (·.1)=((R.take i).filter λp=>(p.1.zip lv).all λq=>decide (q.2<=q.1)).map λp=>p.1.map Sum.inl:=by
        have z:=congrArg (List.map (·.1)) he
        unfold enc at z
        rw [Jo,Jo] at z
        exact z
       rw [e1] at hm
       obtain ⟨p,hp2,ep⟩:=Qw.mp hm
       have ep':p.1=q.1:=oI.mp ep
       obtain ⟨j,hj,ej⟩:=List.getElem_of_mem (Jz.mp hp2).1
       have hi:i < R.length:=(Qd.mp hq).1
       have hqe:R[i]=q:=(Qd.mp hq).2
       rw [Qv] at hj
       rw [List.getElem_take] at ej
       refine Xv.mp hKw.nd j i (by rw [Qb]; omega) (by rw [Qb]; exact hi) (by omega) ?_
       rw [List.getElem_map,List.getElem_map,ej,hqe]
       exact ep'
      ·rw [Qp,he,et,Xg,if_pos hc]
       unfold enc
       rw [Qp]
       rfl
      ·rcases Jh.mp h with h | h
       ·exact kp9 e h
       ·rw [Qo.mp h]
        exact s9 _ _ hb
     ·rw [Yd] at hc
      rw [hc]
      refine gX ?_
      refine ⟨⟨_,rfl⟩,?_,kp9,s9 _ _ f7,b9⟩
      rw [et,Xg,if_neg (by rw [hc]; decide)]
      simpa using he
   ·rintro ys H7 ⟨he,hkp,f7,b7⟩ p hp
    rw [hel,Jf,<- hev] at he
    rw [he]
    refine k p hs lv _ (λb u h=>?_) hd L (by rw [aH (λz=>by rw [z,f7] at hp; cases hp),aB])
    have y:=s5 _ _ (s1 _ _ h)
    by_cases hbr:b=rp
    ·rw [hbr] at y ⊢
     rw [aB,<- e5,y]
    ·rw [aH hbr,aH (λz=>by rw [<- z,b7 b u hbr y] at hp; cases hp)]
     exact b7 b u hbr y
def SM (m:List (List Int×Int)):Int:=aQ (m.map (·.2))
theorem kR (p:List Int×Int) (m:List (List Int×Int)):SM (p::m)=p.2+SM m:=rfl
theorem aBz {p:List Int×Int} {k:List Int} {x:Int} (h:p.1≠k):kD (p::m) k x=p::kD m k x:=by
 unfold kD
 rw [Zq,decide_eq_false h,Bool.false_or]
 split
 ·rw [Qy,if_neg h]
 ·rfl
theorem aBA {p:List Int×Int} {k:List Int} (h:p.1≠k):kC (p::m) k=kC m k:=by
 unfold kC
 rw [Xs,decide_eq_false h]
theorem aEi {k:List Int} {v:Int}:∀ {m:List (List Int×Int)},(m.map (·.1)).Nodup->SM (kD m k ((kC m k).getD 0+v))=SM m+v
 | [],_=>by
  show (0+v)+0=0+v
  omega
 | p::m,nd=>by
  rw [Qy] at nd
  obtain ⟨h1,h2⟩:=Xf.mp nd
  by_cases h:p.1=k
  ·have eg:kC (p::m) k=some p.2:=by unfold kC; rw [Xs,decide_eq_true h]; rfl
   have ep:kD (p::m) k (p.2+v)=(p.1,p.2+v)::m:=by
    unfold kD
    rw [Zq,decide_eq_true h,Qat,if_pos rfl,Qy,if_pos h]
    congr 1
    refine (Xk λq hq=>?_).trans (List.map_id' m)
    rw [if_neg (λz=>h1 (Qw.mpr ⟨q,hq,z.trans h.symm⟩))]
   rw [eg]
   show SM (kD (p::m) k (p.2+v))=_
   rw [ep,kR,kR]
   show p.2+v+SM m=_
   omega
  ·rw [aBA h,aBz h,kR,kR,aEi h2]
   omega
theorem aFu {g:List (List Int×Int)} {p:List Int×Int} {h:Int} (nd:(g.map (·.1)).Nodup) (h3:0 < p.2):SM (iG lv g p h)<=SM g+p.2:=by
 unfold iG
 split
 ·rw [aEi nd]; exact Xd _
 ·omega
theorem zD {n:Nat} {c:Int} {p:List Int×Int} (h1:p.1.length=n) (h2:∀ x∈p.1,0<=x/\x<=c) (h3:0 < p.2):∀ (tk:List Int) (g:List (List Int×Int)),(∀ h∈tk,0<=h/\h < n)->KOk n (c+1) g->SM (withP lv tk g p)<=SM g+tk.length*p.2
 | [],g,_,_=>by
  show SM g<=SM g+(0:Nat)*p.2
  omega
 | h::tk,g,ht,k=>by
  have a:=zD h1 h2 h3 tk (iG lv g p h) (λx hx=>ht x (Qk _ hx)) (k.step h1 h2 h3 (ht h (Qj ..)))
  have b:=aFu (lv:=lv) (h:=h) k.nd h3
  show SM (withP lv tk (iG lv g p h) p)<=_
  rw [Ja,Yg,Qag]
  show _<=SM g+(tk.length*p.2+1*p.2)
  omega
theorem aBB {n:Nat} {c:Int} {tk:List Int} (ht:∀ h∈tk,0<=h/\h < n):∀ (R g:List (List Int×Int)),(∀ p∈R,p.1.length=n/\(∀ x∈p.1,0<=x/\x<=c)/\0 < p.2)->KOk n (c+1) g->SM (R.foldl (λg p=>withP lv tk g p) g)<=SM g+tk.length*SM R
 | [],g,_,_=>by
  show SM g<=SM g+tk.length*0
  omega
 | p::R,g,hR,k=>by
  have hp:=hR p (Qj ..)
  have a:=aBB ht R _ (λq hq=>hR q (Qk _ hq)) (KOk.withP (lv:=lv) hp.1 hp.2.1 hp.2.2 tk g ht k)
  have b:=zD (lv:=lv) hp.1 hp.2.1 hp.2.2 tk g ht k
  rw [kR,Int.mul_add]
  show SM (R.foldl (λg p=>withP lv tk g p) (withP lv tk g p))<=_
  omega
theorem pO:∀ {m:List (List Int×Int)},(∀ p∈m,0 < p.2)->0<=SM m
 | [],_=>Xd _
 | p::m,h=>by
  have a:=h p (Qj ..)
  have b:=pO (m:=m) λq hq=>h q (Qk _ hq)
  rw [kR]
  omega
theorem aFT:∀ {m:List (List Int×Int)},(∀ p∈m,0 < p.2)->∀ p∈m,p.2<=SM m
 | q::m,h,p,hp=>by
  have a:=h q (Qj ..)
  have b:=pO (m:=m) λq hq=>h q (Qk _ hq)
  rw [kR]
  rcases Qn.mp hp with rfl | hp
  ·omega
  ·have:=aFT (m:=m) (λq hq=>h q (Qk _ hq)) p hp
   omega
theorem aBC (n:Nat) (hn:n<=6) (lv:List Int) (ws:List (List Int)) (hw:∀ l∈ws,∀ h∈l,0<=h/\h < (n:Int)) (hl:∀ l∈ws,l.length<=6):∀ i:Nat,i<=ws.length->SM (cR n lv (ws.take i))<=((6^i:Nat):Int)
 | 0,_=>by
  show (1:Int)+0<=1
  decide
 | i+1,h=>by
  have hi:i < ws.length:=by omega
  rw [lP n lv ws (Qc hi)]
  have k:=iT n lv ws hw i (by omega)
  have ih:=aBC n hn lv ws hw hl i (by omega)
  have ht:∀ h∈dI lv ws[i],0<=h/\h < (n:Int):=λh hh=>hw _ (Xb hi) h (Jz.mp hh).1
  have a:=aBB (lv:=lv) ht (cR n lv (ws.take i)) [] k.all (KOk.nil n _)
  have tl:(dI lv ws[i]).length<=6:=Je (Xo ..) (hl _ (Xb hi))
  have nn:=pO k.pos
  have b:((dI lv ws[i]).length:Int)*SM (cR n lv (ws.take i))<=6*SM (cR n lv (ws.take i)):=Int.mul_le_mul_of_nonneg_right (by omega) nn
  have e:((6^(i+1):Nat):Int)=((6^i:Nat):Int)*6:=by rw [Qav]; exact Int.natCast_mul _ _
  rw [e]
  have a':SM (withW (cR n lv (ws.take i)) (dI lv ws[i]) lv)<=0+((dI lv ws[i]).length:Int)*SM (cR n lv (ws.take i)):=a
  omega
theorem sM (lv:List Int) (hb:bC (aV n ws)=true):KOk n.toNat 12 (eU n.toNat lv ws)/\∀ p∈eU n.toNat lv ws,p.2 < 10000000000:=by
 obtain ⟨hn1,hn6,hw12,hws⟩:=bB hb
 have hwr:∀ l∈ws,∀ h∈l,0<=h/\h < ((n.toNat:Nat):Int):=λl hl h hh=>by have:=(bL (hws l hl)).2.1 h hh; omega
 have hl6:∀ l∈ws,l.length<=6:=λl hl=>by
  have z:=lW (l:=l) (m:=(List.range n.toNat).map Int.ofNat) ((bL (hws l hl)).2.2.imp λ{a b} h=>by omega) λh hh=>Qw.mpr ⟨h.toNat,Jw.mpr (by have:=hwr l hl h hh; omega),by have:=hwr l hl h hh; show ((h.toNat:Nat):Int)=h; omega⟩
  rw [Qb,Js] at z
  omega
 have k:=iT n.toNat lv ws hwr ws.length (Qh _)
 have b:=aBC n.toNat (by omega) lv ws hwr hl6 ws.length (Qh _)
 rw [Jf] at k b
 have pw:(6:Nat)^ws.length<=6^12:=Qac (by decide) hw12
 have e12:(6:Nat)^12=2176782336:=by decide
 refine ⟨⟨?_,λp hp=>?_,λp hp=>k.pos p (Jz.mp hp).1⟩,λp hp=>?_⟩
 ·exact List.Nodup.sublist (List.Sublist.map _ Qaf) k.nd
 ·have z:=k.box p (Jz.mp hp).1
  exact ⟨z.1,λx hx=>by have:=z.2 x hx; omega⟩
 ·have z:=aFT k.pos p (Jz.mp hp).1
  omega
def uP (K:Rc) (Pt:Addr):Sp:=λvs H Q _=>∃ (x:V) (n:Int) (ws:List (List Int)),vs = [x]/\Den K H (aV n ws) x/\bC (aV n ws)=true/\H Pt=some (.tab oC)/\∀ (hs lv:List Int) H',aD H H'->bJ ws (bA hs)=true->eJ n ws hs lv->Q (.int (SM (eU n.toNat lv ws))) H'
theorem aCA:FnScope ["book"] ["book"] (aG nT):=⟨rfl,rfl,rfl,by decide +kernel,rfl,by decide +kernel,by decide +kernel⟩
theorem aAK (G:Fn K mg "how_many" nT ["book"] f fd) (B:Bl mg) (GEL:Fn K mg "even_loads" iX ["book"] fE dE) (OEL:FnOk P w K mg base CX0 12 fE dE ["book"] (qQ K Pt)):FnOk P w K mg base CX0 13 f fd ["book"] (uP K Pt):=by
 refine G.fn.ok aCA (λvs H Q E h=>?_) (λcdv A outer s H vs Q E hr h=>?_)
 ·obtain ⟨x,n,ws,rfl,_⟩:=h
  rfl
 ·obtain ⟨x,n,ws,rfl,hx,hb,hP,k⟩:=h
  have r12:Room 12 _:=hr
  refine ⟨_,aJ (aX (aE7 rfl rfl B.sum aDL (bF GEL OEL r12 rfl (aA (pv 0) aC)))),?_⟩
  refine ⟨_,rfl,x,n,ws,rfl,hx,hb,hP,λp hs lv H1 s1 hd L hp=>?_⟩
  obtain ⟨k1,k2⟩:=sM lv hb
  have hl:=k1.len (by have:=(bB hb).2.1; omega)
  refine ⟨p,_,(eU n.toNat lv ws).map (λq:List Int×Int=>q.2),rfl,hp,?_,λz hz=>?_,by rw [Qb]; omega,k hs lv H1 s1 hd L⟩
  ·unfold enc
   rw [Jo,Jo]
   rfl
  ·obtain ⟨q,hq,rfl⟩:=Qw.mp hz
   exact ⟨Int.le_of_lt (k1.pos q hq),k2 q hq⟩
end Ab
namespace L2
open PySem
section
variable {σ:St}
theorem aGK {i:Nat} {m:Nat} {tx:TE} {Q:VK} (hi:σ[i]?=some (some (.ref c))) (hj:σ[j]?=some (some (.int m))) (hc:SqT K H c xs) (hl:xs.length<=100) (hx:∀ H1,aD H H1->∀ Q1:VK,(∀ H2,aD H1 H2->Q1 y H2)->tx σ H1 Q1) (k:∀ r H',aD H H'->SqT K H' r (xs.take m++[y]++xs.drop (m+1))->Q (.ref r) H') :
  tOp (aDb K) (tOp (aDb K) (tSl (aGo K) (aBO i) uU (aCT (aBO j))) (aG5 (tN tx aBR))) (tSl (aGo K) (aBO i) (aCT (tOp (rI0 λi j=>.int (i+j)) (aBO j) (tC (.int 1)))) uU) σ H Q:=by
 refine ⟨_,hi,_,hj,_,rfl,c,_,rfl,hc,λr1 H1 s1 g1=>?_⟩
 rw [kJ] at g1
 refine hx H1 s1 _ λH2 s2=>⟨by rw [Rf]; simp,λr2 hr2=>?_⟩
 have l1:(xs.take m).length<=100:=by rw [Qv]; omega
 refine ⟨r1,r2,_,_,rfl,rfl,(s2.trans (aD.new hr2)).seqT g1,SqT.of aB,by rw [Rf]; show _+1<=_; omega,λr3 H3 s3 g3=>?_⟩
 have s03:=s1.trans (s2.trans ((aD.new (o:=.tup [y]) hr2).trans s3))
 refine ⟨_,hi,_,hj,_,_,rfl,rfl,_,rfl,c,_,rfl,s03.seqT hc,λr4 H4 s4 g4=>?_⟩
 rw [show (m:Int)+1=((m+1:Nat):Int) by omega,jS] at g4
 have l4:(xs.drop (m+1)).length<=100:=by rw [Jy]; omega
 exact ⟨r3,r4,_,_,rfl,rfl,s4.seqT g3,g4,by rw [Rf,Qq]; show _+1+_<=_; omega,λr5 H5 s5 g5=>k r5 H5 (s03.trans (s4.trans s5)) g5⟩
end
end L2
namespace Ab
open PySem L2
def repl (l:List α) (i:Nat) (x:α):List α:=l.take i++[x]++l.drop (i+1)
theorem lQ {l:List α} {i:Nat} {x:α} (h:i < l.length):(repl l i x).length=l.length:=by
 unfold repl
 rw [Qq,Qq,Qv,Jy]
 show _+1+_=_
 omega
theorem aEj {l:List α} {i:Nat} {x y:α} (h:y∈repl l i x):y=x∨y∈l:=by
 unfold repl at h
 rcases Jh.mp h with h | h
 ·rcases Jh.mp h with h | h
  ·exact .inr (Xh h)
  ·exact .inl (Qo.mp h)
 ·exact .inr (Qab h)
theorem mF {l:List α} {i:Nat} {x:α} (h:i < l.length) (j:Nat):(repl l i x)[j]?=if j=i then some x else l[j]?:=by
 have e:repl l i x=l.set i x:=by unfold repl; rw [Xu,if_pos h,Ym]; rfl
 rw [e,Xz]
 by_cases hj:i=j
 ·rw [if_pos hj,if_pos hj.symm,if_pos (by omega)]
 ·rw [if_neg hj,if_neg (Ne.symm hj)]
theorem aEk {h:Int} (h0:0<=h) (h1:h < n):cO n (bM [h])=true:=by
 show (!([PyData.int h].isEmpty) && eD n (-1) [.int h])=true
 simp [eD]
 omega
theorem aCB {i:Nat} {h:Int} (hb:bC (aV n ws)=true) (hd:bJ ws (bA hs)=true) (hl:ws[i]?=some l) (hh:h∈l):bC (aV n (repl ws i [h]))=true/\bJ (repl ws i [h]) (bA (repl hs i h))=true:=by
 obtain ⟨hn1,hn6,hw12,hws⟩:=bB hb
 obtain ⟨d1,d2⟩:=aR hd
 have hi:i < ws.length:=(Qd.mp hl).1
 have hr:=(bL (hws l (Qi hl))).2.1 h hh
 refine ⟨kL hn1 hn6 (by rw [lQ hi]; exact hw12) λm hm=>?_,fJ (by rw [lQ hi,lQ (by omega)]; exact d1) λj a m ha hm=>?_⟩
 ·rcases aEj hm with rfl | hm
  ·exact aEk hr.1 hr.2
  ·exact hws m hm
 ·rw [mF (by omega)] at ha
  rw [mF hi] at hm
  by_cases hj:j=i
  ·rw [if_pos hj] at ha hm
   rw [<- Option.some.inj ha,<- Option.some.inj hm]
   exact Qo.mpr rfl
  ·rw [if_neg hj] at ha hm
   exact d2 j a m ha hm
theorem qD {d:List Int} {i:Nat} {h:Int} (hl:ws[i]?=some l) (hh:h∈l):bJ (repl ws i [h]) (bA d)=true↔bJ ws (bA d)=true/\d[i]?=some h:=by
 have hi:i < ws.length:=(Qd.mp hl).1
 constructor
 ·intro q
  obtain ⟨a,b⟩:=aR q
  rw [lQ hi] at a
  have e:=Qc (show i < d.length by omega)
  have ei:d[i]?=some h:=by
   have:=b i _ [h] e (by rw [mF hi,if_pos rfl])
   rw [e,Qo.mp this]
  refine ⟨fJ a λj x m hx hm=>?_,ei⟩
  by_cases hj:j=i
  ·subst hj
   rw [ei] at hx; rw [hl] at hm
   cases hx; cases hm
   exact hh
  ·exact b j x m hx (by rw [mF hi,if_neg hj]; exact hm)
 ·rintro ⟨q,ei⟩
  obtain ⟨a,b⟩:=aR q
  refine fJ (by rw [lQ hi]; exact a) λj x m hx hm=>?_
  rw [mF hi] at hm
  by_cases hj:j=i
  ·subst hj
   rw [if_pos rfl] at hm
   rw [ei] at hx
   cases hx; cases hm
   exact Yi _
  ·rw [if_neg hj] at hm
   exact b j x m hx hm
theorem zE {he lw ms2:List Int} {i:Nat} {h:Int} (hb:bC (aV n ws)=true) (hd:bJ ws (bA hs)=true) (L:Lvl n ws hs lv) (hl:ws[i]?=some l) (hh:h∈l) (nb:bC (aV n (repl ws i [h]))=true) (de:bJ (repl ws i [h]) (bA he)=true) (Le:Lvl n (repl ws i [h]) he lw) (p1:ms.Perm (aF n he)) (s1:ms.Pairwise (·≥·)) (p2:ms2.Perm (aF n hs)) (s2:ms2.Pairwise (·≥·)):ms=ms2↔∃ d,bJ ws (bA d)=true/\d[i]?=some h/\Lvl n ws d lv:=by
 obtain ⟨de1,de2⟩:=(qD hl hh).mp de
 constructor
 ·rintro rfl
  exact ⟨he,de1,de2,(L.iff hb hd de1).mp (p1.symm.trans p2)⟩
 ·rintro ⟨d,d1,d2,Ld⟩
  have pe:=(L.iff hb hd d1).mpr Ld
  refine nF (by unfold aF; rw [Qb,Qb]) (λt=>?_) (λt=>L.least hb hd de1 t) p1 p2 s1 s2
  rw [<- mC pe]
  exact Le.least nb de ((qD hl hh).mpr ⟨d1,d2⟩) t
theorem lR (hb:bC (aV n ws)=true):∀ l∈ws,∀ h∈l,0<=h/\h < n:=λl hl h hh=>(bL ((bB hb).2.2.2 l hl)).2.1 h hh
def zF (K:Rc) (Pt:Addr):Sp:=λvs H Q _=>∃ (x y:V) (n:Int) (ws:List (List Int)) (hs:List Int) (i:Nat) (l lv:List Int) (h:Int),vs = [x,y,.int i,.int h]/\eR K H x y n ws hs/\H Pt=some (.tab oC)/\ws[i]?=some l/\h∈l/\Lvl n ws hs lv /\
 ∀ (b:Bool) H',aD H H'->(b=true↔∃ d,bJ ws (bA d)=true/\d[i]?=some h/\Lvl n ws d lv)->Q (.bl b) H'
theorem kE:FnScope ["book", "deal", "work", "hand", "hands", "works", "narrow", "ways", "best"] ["book", "deal", "work", "hand"] (aG qL):=⟨rfl,rfl,rfl,by decide +kernel,rfl,by decide +kernel,by decide +kernel⟩
set_option maxHeartbeats 2000000 in
theorem aCC {fBt fFa:Addr} {dBt dFa:FuncData} (G:Fn K mg "is_as_even" qL ["book", "deal", "work", "hand"] f fd) (B:Bl mg) (GBt:Fn K mg "bettered" iP ["book", "deal"] fBt dBt) (OBt:FnOk P w K mg base CX0 10 fBt dBt ["book", "deal"] (kQ K Pt)) (GFa:Fn K mg "falling" nR ["book", "deal"] fFa dFa) (OFa:FnOk P w K mg base CX0 8 fFa dFa ["book", "deal"] (uL K)):FnOk P w K mg base CX0 11 f fd ["book", "deal", "work", "hand"] (zF K Pt):=by
 refine G.fn.ok kE (λvs H Q E h=>?_) (λcdv A outer s H vs Q E hr h=>?_)
 ·obtain ⟨x,y,n,ws,hs,i,l,lv,h,rfl,_⟩:=h
  rfl
 ·obtain ⟨x,y,n,ws,hs,i,l,lv,h,rfl,g,hP,hl,hh,L,k⟩:=h
  have r10:Room 10 _:=hr
  have r8:Room 8 _:=hr.mono (by decide)
  refine ⟨_,(aE (iA (pv 0) (fM rfl (aU (aK (i:=4) kE.nd rfl (Or.inl rfl)) (aU (aK (i:=5) kE.nd rfl (Or.inl rfl)) cP))))
  (aE (aS (i:=6) kE.nd rfl (Or.inl rfl) (cH (aA (pv 4) (aA (bH (lH (K:=K) rfl) (bH (lH (K:=K) rfl) (eW (jV (K:=K) rfl) (pv 5) gR (gS (pv 2))) (cH (aA (cH (aA (pv 3) aC)) aC))) (eW (jV (K:=K) rfl) (pv 5) (gS (bH cV (pv 2) aI)) gR)) aC))))
  (aE (iA (bF GBt OBt r10 rfl (aA (pv 6) (aA (bH (lH (K:=K) rfl) (bH (lH (K:=K) rfl) (eW (jV (K:=K) rfl) (pv 1) gR (gS (pv 2))) (cH (aA (pv 3) aC))) (eW (jV (K:=K) rfl) (pv 1) (gS (bH cV (pv 2) aI)) gR)) aC))) (fM rfl (aU (aK (i:=7) kE.nd rfl (Or.inl rfl)) (aU (aK (i:=8) kE.nd rfl (Or.inl rfl)) cP))))
  (aJ (aX (fI (zW hr.u64) (bF GFa OFa r8 rfl (aA (pv 6) (aA (pv 8) aC))) (bF GFa OFa r8 rfl (aA (pv 0) (aA (pv 1) aC))) (bD _))))))),?_⟩
  obtain ⟨nb,nd⟩:=aCB g.2.1 g.2.2.2 hl hh
  obtain ⟨ba,bb,ys,rfl,ha,hb2,hys⟩:=cY g.1
  obtain ⟨c,rfl,hc⟩:=aP.mp g.2.2.1
  have hlw:=aN hys
  rw [Qb] at hlw
  have hw12:=(bB g.2.1).2.2.1
  have hlen:=(aR g.2.2.2).1
  have hml:(hs.map V.int).length=hs.length:=Qb ..
  refine ⟨_,rfl,ba,_,rfl,ha,rfl,_,_,rfl,_,_,rfl,rfl,?_⟩
  refine ⟨_,rfl,_,rfl,_,rfl,_,rfl,bb,_,rfl,hb2,λr1 H1 s1 g1=>?_⟩
  rw [kJ] at g1
  refine ⟨_,rfl,sz1 _,λq1 hq1=>⟨sz1 _,λq2 hq2=>?_⟩⟩
  have s2:=aD.new (o:=.tup [.int h]) hq1
  have eq1:upd H1 q1 (.tup [.int h]) q1=some (.tup [.int h]):=aB
  generalize upd H1 q1 (.tup [.int h])=H2 at s2 eq1 hq2 ⊢
  have s3:=aD.new (o:=.tup [.ref q1]) hq2
  refine ⟨r1,q2,_,_,rfl,rfl,(s2.trans s3).seqT g1,SqT.of aB,by rw [Rf,Qv]; show _+1<=_; omega,λr3 H3 s4 g3=>?_⟩
  have s13:=s2.trans (s3.trans s4)
  have s03:=s1.trans s13
  refine ⟨_,rfl,_,rfl,_,_,rfl,rfl,_,rfl,bb,_,rfl,s03.seqT hb2,λr4 H4 s5 g4=>?_⟩
  rw [show (i:Int)+1=((i+1:Nat):Int) by omega,jS] at g4
  refine ⟨r3,r4,_,_,rfl,rfl,s5.seqT g3,g4,by rw [Rf,Qq,Qv,Jy]; show _+1+_<=_; omega,λr5 H5 s6 g5=>⟨sz2 _ _,λnr hnr=>?_⟩⟩
  have s7:=aD.new (o:=.tup [.int n,.ref r5]) hnr
  have s07:=s03.trans (s5.trans (s6.trans s7))
  have dn:Den K (upd H5 nr (.tup [.int n,.ref r5])) (aV n (repl ws i [h])) (.ref nr):=by
   refine cC.mpr ⟨nr,_,rfl,SqT.of aB,aL.mpr ⟨_,_,rfl,cK.mpr rfl,aL.mpr ⟨_,_,rfl,cC.mpr ⟨r5,_,rfl,s7.seqT g5,?_⟩,aO.mpr rfl⟩⟩⟩
   have z:=s07.denAll _ _ hys
   unfold repl
   rw [Qp,Qp,Zx,Yv]
   exact bO (bO (L2.jE i z) (aL.mpr ⟨_,_,rfl,aP.mpr ⟨q1,rfl,SqT.of ((s3.trans (s4.trans (s5.trans (s6.trans s7)))) _ _ eq1)⟩,aO.mpr rfl⟩)) (jF (i+1) z)
  generalize upd H5 nr (.tup [.int n,.ref r5])=H6 at s7 s07 dn ⊢
  dsimp only [fV]
  refine ⟨_,rfl,aGK (i:=1) (j:=2) (c:=c) (m:=i) (y:=.int h) (xs:=hs.map V.int) rfl rfl (s07.seqT hc) (by rw [hml]; omega) (λH7 _ Q1 q=>⟨_,rfl,q H7 (aD.refl _)⟩) λr6 H7 s8 g7=>?_⟩
  have s08:=s07.trans s8
  have dd:Den K H7 (bA (repl hs i h)) (.ref r6):=aP.mpr ⟨r6,rfl,by unfold repl; rw [Qp,Qp,Zx,Yv]; exact g7⟩
  refine ⟨.ref nr,.ref r6,n,repl ws i [h],repl hs i h,rfl,⟨s8.den _ _ dn,nb,dd,nd⟩,s08 _ _ hP,λp8 H8 s9 T=>?_⟩
  obtain ⟨wl,dl,qs,Ws,he,lw,hp8,_,_,_,hdl,hch,Lw⟩:=T
  refine ⟨p8,_,rfl,SqT.of hp8,rfl,_,_,rfl,_,_,rfl,rfl,?_⟩
  have s09:=s08.trans s9
  refine ⟨_,rfl,_,rfl,.ref nr,.ref dl,n,repl ws i [h],he,rfl,⟨(s8.trans s9).den _ _ dn,nb,aP.mpr ⟨dl,rfl,SqT.of hdl⟩,iZ hch nd⟩,λp9 H9 ms s10 _ e9 pe1 so1=>?_⟩
  refine ⟨_,rfl,_,rfl,.ref ba,.ref c,n,ws,hs,rfl,g.same (s09.trans s10),λp10 H10 ms2 s11 _ e10 pe2 so2=>?_⟩
  refine ⟨.list (ms.map .int),.list (ms2.map .int),cX.mpr ⟨p9,_,rfl,SqL.of (s11 _ _ e9),cD.mpr rfl⟩,cX.mpr ⟨p10,_,rfl,SqL.of e10,cD.mpr rfl⟩,eE _,eE _,eS _,eS _,k _ _ (s09.trans (s10.trans s11)) ?_⟩
  have z:=zE g.2.1 g.2.2.2 L hl hh nb (iZ hch nd) (wJ Lw (dY nb (iZ hch nd)) (lR nb)) pe1 so1 pe2 so2
  rw [<- z,pF]
  exact decide_eq_true_iff
def Wt (φ:List Int->Int) (m:List (List Int×Int)):Int:=aQ (m.map λp=>p.2*φ p.1)
theorem oM (φ:List Int->Int) (p:List Int×Int) (m:List (List Int×Int)):Wt φ (p::m)=p.2*φ p.1+Wt φ m:=rfl
theorem aEl {k:List Int} {v:Int}:∀ {m:List (List Int×Int)},(m.map (·.1)).Nodup->Wt φ (kD m k ((kC m k).getD 0+v))=Wt φ m+v*φ k
 | [],_=>by
  show (0+v)*φ k+0=0+v*φ k
  rw [Zd]; omega
 | p::m,nd=>by
  rw [Qy] at nd
  obtain ⟨h1,h2⟩:=Xf.mp nd
  by_cases h:p.1=k
  ·have eg:kC (p::m) k=some p.2:=by unfold kC; rw [Xs,decide_eq_true h]; rfl
   have ep:kD (p::m) k (p.2+v)=(p.1,p.2+v)::m:=by
    unfold kD
    rw [Zq,decide_eq_true h,Qat,if_pos rfl,Qy,if_pos h]
    congr 1
    refine (Xk λq hq=>?_).trans (List.map_id' m)
    rw [if_neg (λz=>h1 (Qw.mpr ⟨q,hq,z.trans h.symm⟩))]
   rw [eg]
   show Wt φ (kD (p::m) k (p.2+v))=_
   rw [ep,oM,oM]
   show (p.2+v)*φ p.1+Wt φ m=_
   rw [Qag,h]
   omega
  ·rw [aBA h,aBz h,oM,oM,aEl h2]
   omega
def zG (φ:List Int->Int) (lv b:List Int) (h:Int):Int:=if b.getD h.toNat 0<=lvA lv h then φ (lA b h.toNat) else 0
theorem aFv {g:List (List Int×Int)} {p:List Int×Int} {h:Int} (nd:(g.map (·.1)).Nodup):Wt φ (iG lv g p h)=Wt φ g+p.2*zG φ lv p.1 h:=by
 unfold iG zG lvA
 split
 ·rw [aEl nd]
 ·rw [Int.mul_zero]; omega
theorem zH {n:Nat} {c:Int} {p:List Int×Int} (h1:p.1.length=n) (h2:∀ x∈p.1,0<=x/\x<=c) (h3:0 < p.2):∀ (tk:List Int) (g:List (List Int×Int)),(∀ h∈tk,0<=h/\h < n)->KOk n (c+1) g->Wt φ (withP lv tk g p)=Wt φ g+p.2*aQ (tk.map (zG φ lv p.1))
 | [],g,_,_=>by
  show Wt φ g=Wt φ g+p.2*0
  omega
 | h::tk,g,ht,k=>by
  have a:=zH h1 h2 h3 tk (iG lv g p h) (λx hx=>ht x (Qk _ hx)) (k.step h1 h2 h3 (ht h (Qj ..)))
  show Wt φ (withP lv tk (iG lv g p h) p)=Wt φ g+p.2*(zG φ lv p.1 h+aQ (tk.map (zG φ lv p.1)))
  rw [a,aFv k.nd,Int.mul_add]
  omega
theorem aBD {n:Nat} {c:Int} {tk:List Int} (ht:∀ h∈tk,0<=h/\h < n):∀ (R g:List (List Int×Int)),(∀ p∈R,p.1.length=n/\(∀ x∈p.1,0<=x/\x<=c)/\0 < p.2)->KOk n (c+1) g->Wt φ (R.foldl (λg p=>withP lv tk g p) g)=Wt φ g+Wt (λb=>aQ (tk.map (zG φ lv b))) R
 | [],g,_,_=>by
  show Wt φ g=Wt φ g+0
  omega
 | p::R,g,hR,k=>by
  have hp:=hR p (Qj ..)
  have a:=aBD ht R _ (λq hq=>hR q (Qk _ hq)) (KOk.withP (lv:=lv) hp.1 hp.2.1 hp.2.2 tk g ht k)
  rw [oM]
  show Wt φ (R.foldl (λg p=>withP lv tk g p) (withP lv tk g p))=_
  rw [a,zH hp.1 hp.2.1 hp.2.2 tk g ht k]
  omega
theorem aAL {d:List Int} {h:Int} (h0:0<=h) (h1:h < n):lA (aF n d) h.toNat=aF n (d++[h]):=by
 have hl:(aF n d).length=n.toNat:=by unfold aF bZ; rw [Qb,Qb,Js]
 have at_:∀ (d:List Int) (j:Nat),(aF n d)[j]?=if j < n.toNat then some ((d.count (j:Int):Nat):Int) else none:=λd j=>by
  unfold aF bZ
  rw [Jo,Qe]
  by_cases hj:j < n.toNat
  ·rw [Xe hj,if_pos hj]; rfl
  ·rw [if_neg hj,Zg (by rw [Js]; omega)]; rfl
 refine Zn λj=>?_
 rw [at_]
 have e:=mF (l:=aF n d) (i:=h.toNat) (x:=(aF n d).getD h.toNat 0+1) (by omega) j
 unfold repl at e
 unfold lA
 rw [e,at_,Zy]
 by_cases hj:j=h.toNat
 ·rw [if_pos hj,if_pos (by omega),Qu,at_,if_pos (by omega),hj,show ((h.toNat:Nat):Int)=h by omega]
  simp
 ·rw [if_neg hj]
  have:List.count (j:Int) [h]=0:=Qao.mpr λz=>hj (by have:=Qo.mp z; omega)
  rw [this]; rfl
def aW (ws:List (List Int)):List (List Int):=ws.foldl (λF l=>F.flatMap λd=>l.map λh=>d++[h]) [[]]
theorem gH (ws:List (List Int)) (l:List Int):aW (ws++[l])=(aW ws).flatMap λd=>l.map λh=>d++[h]:=by
 unfold aW; rw [Zo]; rfl
structure Cap (n:Int) (ws:List (List Int)) (lv d:List Int):Prop where
 cap:∀ h:Int,0<=h->h < n->((d.count h:Nat):Int)<=lvA lv h+1
 low:∀ (i:Nat) g l,d[i]?=some g->ws[i]?=some l->∀ u∈l,lvA lv g<=lvA lv u
theorem sN (f:β->Int) (g:α->List β):∀ l:List α,aQ ((l.flatMap g).map f)=aQ (l.map λa=>aQ ((g a).map f))
 | []=>rfl
 | a::l=>by
  rw [List.flatMap_cons,Qp,iJ,sN f g l]
  rfl
theorem kS (f:α->Int) (p:α->Bool):∀ l:List α,aQ ((l.filter p).map f)=aQ (l.map λa=>if p a then f a else 0)
 | []=>rfl
 | a::l=>by
  rw [Xg]
  show _=(if p a then f a else 0)+aQ (l.map λa=>if p a then f a else 0)
  rw [<- kS f p l]
  cases p a
  ·simp only [Jg,if_false]; omega
  ·rfl
theorem cE:∀ (k:Nat) (ws:List (List Int)),ws.length=k->∀ d∈aW ws,bJ ws (bA d)=true:=by
 intro k
 induction k with
 | zero =>
  intro ws hk d hd
  have:ws = []:=Jp.mp hk
  subst this
  have:d = []:=by simpa [aW] using hd
  subst this
  exact fJ rfl (λj h l hh=>by simp at hh)
 | succ k ih =>
  intro ws hk d hd
  obtain ⟨us,l,rfl⟩:∃ us l,ws=us++[l]:=⟨ws.dropLast,ws.getLast (by intro z; rw [z] at hk; simp at hk),(Xp _).symm⟩
  rw [gH] at hd
  obtain ⟨e,he,hd⟩:=List.mem_flatMap.mp hd
  obtain ⟨h,hh,rfl⟩:=Qw.mp hd
  obtain ⟨a,b⟩:=aR (ih us (by simpa using hk) e he)
  refine fJ (by simp [a]) λj x m hx hm=>?_
  by_cases hj:j < us.length
  ·rw [Qt (by omega)] at hx hm
   exact b j x m hx hm
  ·rw [Ji (by omega)] at hx hm
   have ej:j - us.length=0:=by
    have:=(Qd.mp hm).1
    simp at this; omega
   rw [a,ej] at hx
   rw [ej] at hm
   cases hx; cases hm
   exact hh
open Classical in
theorem aFw (n:Int) (lv:List Int):∀ (k:Nat) (ws:List (List Int)),ws.length=k->(∀ l∈ws,∀ h∈l,0<=h/\h < n)->0<=n->(∀ h,0<=h->h < n->-1<=lvA lv h)->∀ φ:List Int->Int,Wt φ (cR n.toNat lv ws)=aQ ((aW ws).map λd=>if Cap n ws lv d then φ (aF n d) else 0):=by
 intro k
 induction k with
 | zero =>
  intro ws hk _ hn hlv φ
  have:ws = []:=Jp.mp hk
  subst this
  have c:Cap n [] lv []:=⟨λh h0 h1=>by
   have:=hlv h h0 h1
   simp; omega,λi g l h=>by simp at h⟩
  show 1*φ (List.replicate n.toNat 0)+0=(if Cap n [] lv [] then φ (aF n []) else 0)+0
  rw [if_pos c,Int.one_mul]
  have:aF n []=List.replicate n.toNat 0:=by
   unfold aF bZ
   rw [Jo]
   refine List.eq_replicate_iff.mpr ⟨by rw [Qb,Js],λb hb=>?_⟩
   obtain ⟨i,_,rfl⟩:=Qw.mp hb
   rfl
  rw [this]
 | succ k ih =>
  intro ws hk hw hn hlv φ
  obtain ⟨us,l,rfl⟩:∃ us l,ws=us++[l]:=⟨ws.dropLast,ws.getLast (by intro z; rw [z] at hk; simp at hk),(Xp _).symm⟩
  have hwu:∀ l∈us,∀ h∈l,0<=h/\h < n:=λm hm=>hw m (Jv _ hm)
  have hl:∀ h∈l,0<=h/\h < n:=hw l (Jc _ (Yi _))
  have e:cR n.toNat lv (us++[l])=withW (cR n.toNat lv us) (dI lv l) lv:=by
   unfold cR; rw [Zo]; rfl
  have ok:=iT n.toNat lv us (λm hm h hh=>by have:=hwu m hm h hh; omega) us.length (Qh _)
  rw [Jf] at ok
  rw [e]
  have f:=aBD (φ:=φ) (lv:=lv) (tk:=dI lv l) (λh hh=>by have:=hl h (Jz.mp hh).1; omega) (cR n.toNat lv us) [] ok.all (KOk.nil _ _)
  show Wt φ ((cR n.toNat lv us).foldl (λg p=>withP lv (dI lv l) g p) [])=_
  rw [f,ih us (by simpa using hk) hwu hn hlv,gH,sN]
  show 0+_=_
  rw [Zd]
  refine dX λd hd=>?_
  unfold dI
  rw [kS,Jo]
  have dl:=(aR (cE _ us rfl d hd)).1
  have tr:∀ h∈l,Cap n (us++[l]) lv (d++[h])↔(Cap n us lv d/\(∀ j∈l,lvA lv h<=lvA lv j)/\((d.count h:Nat):Int)<=lvA lv h):=λh hh=>by
   have hr:=hl h hh
   constructor
   ·intro c
    refine ⟨⟨λx h0 h1=>?_,λi g m hg hm=>c.low i g m ?_ ?_⟩,λj hj=>c.low us.length h l ?_ ?_ j hj,?_⟩
    ·have:=c.cap x h0 h1
     rw [Zy] at this
     omega
    ·rw [Qt (Qd.mp hg).1]; exact hg
    ·rw [Qt (Qd.mp hm).1]; exact hm
    ·rw [<- dl]; simp
    ·simp
    ·have:=c.cap h hr.1 hr.2
     rw [Zy,Wd] at this
     omega
   ·rintro ⟨c,b,a⟩
    refine ⟨λx h0 h1=>?_,λi g m hg hm u hu=>?_⟩
    ·rw [Zy]
     by_cases hx:x=h
     ·subst hx
      rw [Wd]; omega
     ·have:List.count x [h]=0:=Qao.mpr (by simpa using hx)
      rw [this]; exact c.cap x h0 h1
    ·by_cases hi:i < us.length
     ·rw [Qt (by omega)] at hg hm
      exact c.low i g m hg hm u hu
     ·rw [Ji (by omega)] at hg hm
      have ej:i - us.length=0:=by
       have:=(Qd.mp hm).1
       simp at this; omega
      rw [dl,ej] at hg
      rw [ej] at hm
      cases hg; cases hm
      exact b u hu
  by_cases c:Cap n us lv d
  ·rw [if_pos c]
   refine dX λh hh=>?_
   have hr:=hl h hh
   show (if decide (∀ j∈l,lvA lv h<=lvA lv j) then zG φ lv (aF n d) h else 0)=(if Cap n (us++[l]) lv (d++[h]) then φ (aF n (d++[h])) else 0)
   have gd:(aF n d).getD h.toNat 0=((d.count h:Nat):Int):=by
    unfold aF bZ
    rw [Qu,Jo,Qe,Xe (by omega)]
    show ((d.count ((h.toNat:Nat):Int):Nat):Int)=_
    rw [show ((h.toNat:Nat):Int)=h by omega]
   unfold zG
   rw [gd,aAL hr.1 hr.2]
   by_cases b:∀ j∈l,lvA lv h<=lvA lv j
   ·rw [decide_eq_true b,if_pos rfl]
    by_cases a:((d.count h:Nat):Int)<=lvA lv h
    ·rw [if_pos a,if_pos ((tr h hh).mpr ⟨c,b,a⟩)]
    ·rw [if_neg a,if_neg λz=>a ((tr h hh).mp z).2.2]
   ·rw [decide_eq_false b,if_neg Qr,if_neg λz=>b ((tr h hh).mp z).2.1]
  ·rw [if_neg c]
   refine (gO λh hh=>?_).symm
   show (if Cap n (us++[l]) lv (d++[h]) then φ (aF n (d++[h])) else 0)=0
   rw [if_neg λz=>c ((tr h hh).mp z).1]
def Go (n:Int) (ws:List (List Int)) (lv:List Int) (i:Nat) (h:Int):Prop:=∃ d,bJ ws (bA d)=true/\d[i]?=some h/\Lvl n ws d lv
noncomputable def goB (n:Int) (ws:List (List Int)) (lv:List Int) (i:Nat) (h:Int):Bool:=@decide (Go n ws lv i h) (Classical.propDecidable _)
theorem wL {i:Nat} {h:Int}:goB n ws lv i h=true↔Go n ws lv i h:=@decide_eq_true_iff _ (Classical.propDecidable _)
noncomputable def goR (n:Int) (ws:List (List Int)) (lv:List Int) (i:Nat):List Int:=(ws.getD i []).filter (goB n ws lv i)
def aBE (K:Rc) (Pt:Addr):Sp:=λvs H Q _=>∃ (x:V) (n:Int) (ws:List (List Int)),vs = [x]/\Den K H (aV n ws) x/\bC (aV n ws)=true/\H Pt=some (.tab oC)/\∀ (p:Addr) (qs:List Addr) (hs lv:List Int) H',aD H H'->bJ ws (bA hs)=true->Lvl n ws hs lv->H' p=some (.lst (qs.map V.ref))->qs.length=ws.length->(∀ (j:Nat) q,qs[j]?=some q->H' q=some (.tup ((goR n ws lv j).map V.int)))->Q (.ref p) H'
theorem oN:FnScope ["book", "deal", "told", "work", "able"] ["book"] (aG rP):=⟨rfl,rfl,rfl,by decide +kernel,rfl,by decide +kernel,by decide +kernel⟩
set_option maxHeartbeats 2000000 in
theorem aEm {fA:Addr} {dA:FuncData} (G:Fn K mg "may_go" rP ["book"] f fd) (B:Bl mg) (GEv:Fn K mg "evenest" jX ["book"] fE dE) (OEv:FnOk P w K mg base CX0 11 fE dE ["book"] (mD K Pt)) (GAE:Fn K mg "is_as_even" qL ["book", "deal", "work", "hand"] fA dA) (OAE:FnOk P w K mg base CX0 11 fA dA ["book", "deal", "work", "hand"] (zF K Pt)):FnOk P w K mg base CX0 12 f fd ["book"] (aBE K Pt):=by
 refine G.fn.ok oN (λvs H Q E h=>?_) (λcdv A outer s H vs Q E hr h=>?_)
 ·obtain ⟨x,n,ws,rfl,_⟩:=h
  rfl
 ·obtain ⟨x,n,ws,rfl,hx,hb,hP,k⟩:=h
  have r11:Room 11 _:=hr
  refine ⟨_,(aE (aS (i:=1) oN.nd rfl (Or.inr rfl) (aZ (cN (K:=K) rfl) (bF GEv OEv r11 rfl (aA (pv 0) aC)) aI (λ_ _=>rfl)))
  (aE (aS (i:=2) oN.nd rfl (Or.inl rfl) (eP aC))
  (aE (eF PassesOwn.never rfl (aEO .t rfl B.enumerate (aA (aZ (cN (K:=K) rfl) (pv 0) aI (λ_ _=>rfl)) aC)) (fM rfl (aU (aK (i:=3) oN.nd rfl (Or.inr rfl)) (aU (aK (i:=4) oN.nd rfl (Or.inl rfl)) cP)))
   (aJ (gA (nH Rw Ry Rz iO (pv 2) (aA (bR bV rfl B.tuple cM (aA (cB (own:=["hand"]) (fr:=[0,1,3]) (frn:=["book", "deal", "work"]) (bG (aG rP) ["book", "deal", "told", "work", "able"] rfl rfl (by decide +kernel)) rfl (gB (pv 4))
    (λ_ _ _ _=>(aK (i:=0) (show (["hand", "book", "deal", "work"]:List Str).Nodup by decide +kernel) rfl (Or.inl rfl))) (λ_ _ _ _=>mW (eC (bF GAE OAE r11 rfl (aA (pv 1) (aA (pv 2) (aA (pv 3) (aA (pv 0) aC)))))))
    (λ_ _ _ _=>(pv 0))) aC)) aC)))))
  (aJ (aX (pv 2)))))),?_⟩
  obtain ⟨hn1,hn6,hw12,hws⟩:=bB hb
  refine ⟨_,rfl,x,n,ws,rfl,hx,hb,hP,λp dp lp hs lv H1 s1 hp hdp hd hlp L=>?_⟩
  refine ⟨p,_,0,.ref dp,rfl,rfl,SqT.of hp,rfl,cZ (Jr _),λtl htl=>?_⟩
  obtain ⟨ba,bb,ys,rfl,ha,hb2,hys⟩:=cY (s1.den _ _ hx)
  have hlw:=aN hys
  rw [Qb] at hlw
  have g1:eR K H1 (.ref ba) (.ref dp) n ws hs:=⟨s1.den _ _ hx,hb,aP.mpr ⟨dp,rfl,SqT.of hdp⟩,hd⟩
  have LL:=wJ L (dY hb hd) (lR hb)
  have s2:=aD.new (o:=.lst []) htl
  have e2:upd H1 tl (.lst []) tl=some (.lst []):=aB
  generalize upd H1 tl (.lst [])=H2 at s2 e2 ⊢
  dsimp only [fV]
  refine ⟨_,rfl,ba,_,1,.ref bb,rfl,rfl,s2.seqT ha,rfl,bb,_,rfl,s2.seqT hb2,aDe (K:=K) (k:=.t) (a:=bb) (xs:=ys) (λi σ H3=>(∃ v3 v4,σ = [some (.ref ba),some (.ref dp),some (.ref tl),v3,v4])/\aD H1 H3/\∃ qs:List Addr,H3 tl=some (.lst (qs.map V.ref))/\qs.length=i/\∀ (j:Nat) q,qs[j]?=some q->H3 q=some (.tup ((goR n ws lv j).map V.int))) ⟨⟨_,_,rfl⟩,s2,[],e2,rfl,λj q h=>by simp at h⟩ (λi σ H3 _ h=>h.2.1.seqT hb2) ?_ ?_⟩
  ·rintro i y q σ H3 hy ⟨⟨v3,v4,rfl⟩,s3,qs,e3,hx3,hqs⟩ hq
   have hi:i < ys.length:=(Qd.mp hy).1
   obtain ⟨dv,hdv,denv⟩:=bU hys hy
   rw [Qe] at hdv
   obtain ⟨l,hl,rfl⟩:∃ l,ws[i]?=some l/\bM l=dv:=by
    cases q:ws[i]? with
    | none=>rw [q] at hdv; cases hdv
    | some l=>rw [q] at hdv; exact ⟨l,rfl,Option.some.inj hdv⟩
   obtain ⟨pw,rfl,hpw⟩:=aP.mp denv
   have s4:=aD.new (o:=.tup [.int (i:Nat),.ref pw]) hq
   have t4:upd H3 q (.tup [.int (i:Nat),.ref pw]) q=some (.tup [.int (i:Nat),.ref pw]):=aB
   have e4:=s4 _ _ e3
   have s14:=s3.trans s4
   generalize upd H3 q (.tup [.int (i:Nat),.ref pw])=H4 at s4 t4 e4 s14 ⊢
   refine ⟨q,_,rfl,SqT.of t4,rfl,_,_,rfl,_,_,rfl,rfl,?_⟩
   have hP1:=s1 _ _ hP
   have l12:l.length<=12:=by
    have w:=bL (hws l (Qi hl))
    have z:=lW (l:=l) (m:=(List.range n.toNat).map Int.ofNat) (w.2.2.imp λ{a b} h=>by omega) λh hh=>Qw.mpr ⟨h.toNat,Jw.mpr (by have:=w.2.1 h hh; omega),by have:=w.2.1 h hh; show ((h.toNat:Nat):Int)=h; omega⟩
    rw [Qb,Js] at z
    omega
   dsimp only [fV]
   refine ⟨_,rfl,.inl ⟨rfl,_,SqL.of e4⟩,_,rfl,pw,rfl,⟨_,s14.seqT hpw⟩,jT (K:=K) (a:=pw) (xs:=l.map V.int) (λσ=>∃ v,σ = [v,some (.ref ba),some (.ref dp),some (.int (i:Nat))]) (λj zs H5=>aD H4 H5/\zs=((l.take j).filter (goB n ws lv i)).map V.int) (by rw [Qb]; exact cZ (by omega)) ⟨none,rfl⟩ ⟨aD.refl _,rfl⟩ (λj _ _ h=>by rw [h.2,Qb]; exact Je (Xo ..) (Zu ..)) (λ_ _ _ h=>(s14.trans h.1).seqT hpw) ?_ ?_⟩
   ·rintro j zs σ xv H5 hxv ⟨v,rfl⟩ ⟨s5,hz5⟩ hz
    rw [Qe] at hxv
    cases hlj:l[j]? with
    | none=>rw [hlj] at hxv; cases hxv
    | some h =>
     rw [hlj] at hxv
     obtain rfl:V.int h=xv:=Option.some.inj hxv
     have s15:=s14.trans s5
     refine ⟨_,rfl,_,rfl,_,rfl,_,rfl,.ref ba,.ref dp,n,ws,hs,i,l,lv,h,rfl,g1.same s15,s15 _ _ hP1,hl,Qi hlj,LL,λb H6 s6 hbi=>⟨_,rfl,?_⟩⟩
     have hbi:b=true↔Go n ws lv i h:=hbi
     have et:l.take (j+1)=l.take j++[h]:=by rw [Jd,hlj]; rfl
     cases b with
     | true=>exact fZ ⟨_,rfl,hz,⟨_,rfl⟩,s5.trans s6,by rw [hz5,et,Xj,Xg,if_pos (wL.mpr (hbi.mp rfl)),Qp]; rfl⟩
     | false=>exact gX ⟨⟨_,rfl⟩,s5.trans s6,by rw [hz5,et,Xj,Xg,if_neg (λz=>Qr (hbi.mpr (wL.mp z)))]; simp⟩
   ·rintro zs H5 ⟨s5,hz5⟩ z hz
    refine ⟨z,_,rfl,.inl ⟨SqL.of aB,λtp htp=>?_⟩⟩
    have s6:=s5.trans ((aD.new (o:=.lst zs) hz).trans (aD.new (o:=.tup zs) htp))
    have e6:=s6 _ _ e4
    have tt:upd (upd H5 z (.lst zs)) tp (.tup zs) tp=some (.tup zs):=aB
    refine ⟨tl,qs.map V.ref,.ref tp,rfl,rfl,e6,by rw [Rf,Qb]; omega,⟨_,_,rfl⟩,λb u h=>?_,qs++[tp],by rw [Qp]; exact aB,by rw [Qq,hx3]; rfl,λjj q hq=>?_⟩
    ·rw [aH (λz=>by rw [z,htl] at h; cases h)]
     exact (s14.trans s6) _ _ h
    ·have ne:∀ a u,upd (upd H5 z (.lst zs)) tp (.tup zs) a=some (.tup u)->a≠tl:=λa u ha za=>by rw [za,e6] at ha; cases ha
     by_cases hj:jj < qs.length
     ·rw [Qt hj] at hq
      have:=s6 _ _ (s4 _ _ (hqs jj q hq))
      rw [aH (ne _ _ this)]
      exact this
     ·rw [Ji (by omega)] at hq
      have e0:jj - qs.length=0:=by have:=(Qd.mp hq).1; simp at this; omega
      rw [e0] at hq
      cases hq
      have ej:jj=i:=by omega
      rw [aH (ne _ _ tt),tt,hz5,Qb,Jf,ej]
      unfold goR
      rw [Qu,hl]
      rfl
  ·rintro σ H3 ⟨⟨v3,v4,rfl⟩,s3,qs,e3,hx3,hqs⟩
   exact ⟨_,rfl,k tl qs hs lv H3 (s1.trans s3) hd LL e3 (by omega) hqs⟩
theorem aCD (φ:List Int->Int) (f:List Int->Bool) (m:List (List Int×Int)):Wt φ (m.filter λp=>f p.1)=Wt (λb=>if f b then φ b else 0) m:=by
 unfold Wt
 rw [kS]
 refine dX λp _=>?_
 by_cases c:f p.1=true
 ·rw [if_pos c]; show _=_*(if f p.1 then _ else _); rw [if_pos c]
 ·rw [if_neg c]; show _=_*(if f p.1 then _ else _); rw [if_neg c,Int.mul_zero]
theorem aBF {d:List Int} (hl:lv.length=n.toNat):(((aF n d).zip lv).all λq=>decide (q.2<=q.1))=true↔∀ h:Int,0<=h->h < n->lvA lv h<=((d.count h:Nat):Int):=by
 have at_:∀ j:Nat,j < n.toNat->(aF n d)[j]?=some ((d.count (j:Int):Nat):Int):=λj hj=>by
  unfold aF bZ
  rw [Jo,Qe,Xe hj]; rfl
 have lv_:∀ j:Nat,j < n.toNat->lv[j]?=some (lvA lv (j:Int)):=λj hj=>by
  unfold lvA
  rw [Qu,Jj,Qc (by omega)]; rfl
 rw [Jt]
 constructor
 ·intro a h h0 h1
  have z:(((d.count h:Nat):Int),lvA lv h)∈(aF n d).zip lv:=Jb.mpr ⟨h.toNat,Jl.mpr (by
   have e:((h.toNat:Nat):Int)=h:=by omega
   have a:=at_ h.toNat (by omega)
   have b:=lv_ h.toNat (by omega)
   rw [e] at a b
   exact ⟨a,b⟩)⟩
  exact of_decide_eq_true (a _ z)
 ·intro a q hq
  obtain ⟨j,hj⟩:=Jb.mp hq
  obtain ⟨e1,e2⟩:=Jl.mp hj
  have hlt:j < n.toNat:=by have:=(Qd.mp e2).1; omega
  rw [at_ j hlt] at e1
  rw [lv_ j hlt] at e2
  rw [<- Option.some.inj e1,<- Option.some.inj e2]
  exact decide_eq_true (a j (by omega) (by omega))
section
open Classical
theorem aBG (hb:bC (aV n ws)=true) (hl:lv.length=n.toNat) (L:Lvl n ws hs lv) (φ:List Int->Int):Wt φ (eU n.toNat lv ws)=aQ ((aW ws).map λd=>if Lvl n ws d lv then φ (aF n d) else 0):=by
 have hn:=(bB hb).1
 unfold eU
 rw [aCD φ (λb=>(b.zip lv).all λq=>decide (q.2<=q.1)),aFw n lv _ ws rfl (lR hb) (by omega) (λh h0 h1=>by have:=(L.box h h0 h1).2; omega)]
 refine dX λd _=>?_
 by_cases c:Lvl n ws d lv
 ·rw [if_pos c,if_pos ⟨λh h0 h1=>(c.box h h0 h1).2,c.low⟩,if_pos ((aBF hl).mpr λh h0 h1=>(c.box h h0 h1).1)]
 ·rw [if_neg c]
  by_cases e:Cap n ws lv d
  ·rw [if_pos e,if_neg λz=>c ⟨λh h0 h1=>⟨(aBF hl).mp z h h0 h1,e.cap h h0 h1⟩,e.low⟩]
  ·rw [if_neg e]
theorem aFx (hb:bC (aV n ws)=true) (hl:lv.length=n.toNat) (L:Lvl n ws hs lv):SM (eU n.toNat lv ws)=(((aW ws).filter λd=>decide (Lvl n ws d lv)).length:Int):=by
 have e:=aBG hb hl L λ_=>1
 have a:∀ m,Wt (λ_=>1) m=SM m:=λm=>by unfold Wt SM; exact dX λp _=>Int.mul_one _
 rw [<- a,e]
 have:∀ l:List (List Int),aQ (l.map λd=>if Lvl n ws d lv then (1:Int) else 0)=((l.filter λd=>decide (Lvl n ws d lv)).length:Int):=λl=>by
  induction l with
  | nil=>rfl
  | cons d l ih =>
   show (if Lvl n ws d lv then (1:Int) else 0)+aQ (l.map λd=>if Lvl n ws d lv then (1:Int) else 0)=_
   rw [ih,Xg]
   by_cases c:Lvl n ws d lv
   ·rw [if_pos c,if_pos (decide_eq_true c),Ja]; omega
   ·rw [if_neg c,if_neg (λz=>c (of_decide_eq_true z))]; omega
 exact this _
theorem pP {f:α->Int}:∀ {l:List α},(∀ x∈l,0<=f x)->(0 < aQ (l.map f)↔∃ x∈l,0 < f x)
 | [],_=>⟨λh=>absurd (show (0:Int) < 0 from h) (by decide),λ⟨x,h,_⟩=>by cases h⟩
 | a::l,h=>by
  have ih:=pP (l:=l) λx hx=>h x (Qk _ hx)
  have h0:=h a (Qj ..)
  have h1:0<=aQ (l.map f):=by
   have:=lO (f:=λ_=>0) (g:=f) (l:=l) λx hx=>h x (Qk _ hx)
   have e:aQ (l.map λ_=>(0:Int))=0:=gO λ_ _=>rfl
   omega
  show 0 < f a+aQ (l.map f)↔_
  constructor
  ·intro p
   by_cases q:0 < f a
   ·exact ⟨a,Qj ..,q⟩
   ·obtain ⟨x,hx,hp⟩:=ih.mp (by omega)
    exact ⟨x,Qk _ hx,hp⟩
  ·rintro ⟨x,hx,hp⟩
   rcases Qn.mp hx with rfl | hx
   ·omega
   ·have:=ih.mpr ⟨x,hx,hp⟩
    omega
theorem zI (hb:bC (aV n ws)=true) (hl:lv.length=n.toNat) (L:Lvl n ws hs lv) (k:List Int):(∃ p∈eU n.toNat lv ws,p.1=k)↔∃ d∈aW ws,Lvl n ws d lv/\aF n d=k:=by
 have e:=aBG hb hl L λb=>if b=k then 1 else 0
 have pos:=(sM lv hb).1.pos
 have a:0 < Wt (λb=>if b=k then 1 else 0) (eU n.toNat lv ws)↔∃ p∈eU n.toNat lv ws,p.1=k:=by
  show 0 < aQ ((eU n.toNat lv ws).map λp=>p.2*if p.1=k then 1 else 0)↔_
  rw [pP (λp hp=>by have:=pos p hp; by_cases c:p.1=k <;> simp [c] <;> omega)]
  refine ⟨λ⟨p,hp,h⟩=>⟨p,hp,?_⟩,λ⟨p,hp,h⟩=>⟨p,hp,?_⟩⟩
  ·by_cases c:p.1=k
   ·exact c
   ·rw [if_neg c] at h; simp at h
  ·rw [if_pos h]; have:=pos p hp; omega
 rw [<- a,e,pP (λd _=>by split <;> (try split) <;> decide)]
 refine ⟨λ⟨d,hd,h⟩=>⟨d,hd,?_⟩,λ⟨d,hd,h1,h2⟩=>⟨d,hd,?_⟩⟩
 ·by_cases c:Lvl n ws d lv
  ·rw [if_pos c] at h
   by_cases f:aF n d=k
   ·exact ⟨c,f⟩
   ·rw [if_neg f] at h; simp at h
  ·rw [if_neg c] at h; simp at h
 ·rw [if_pos h1,if_pos h2]; decide
end
theorem hX:∀ (k:Nat) (ws:List (List Int)),ws.length=k->∀ d,bJ ws (bA d)=true->d∈aW ws:=by
 intro k
 induction k with
 | zero =>
  intro ws hk d hd
  have:ws = []:=Jp.mp hk
  subst this
  have:d = []:=Jp.mp (aR hd).1
  subst this
  exact Yi _
 | succ k ih =>
  intro ws hk d hd
  obtain ⟨us,l,rfl⟩:∃ us l,ws=us++[l]:=⟨ws.dropLast,ws.getLast (by intro z; rw [z] at hk; simp at hk),(Xp _).symm⟩
  obtain ⟨a,b⟩:=aR hd
  rw [Qq] at a
  obtain ⟨e,h,rfl⟩:∃ e h,d=e++[h]:=⟨d.dropLast,d.getLast (by intro z; rw [z] at a; simp at a),(Xp _).symm⟩
  rw [Qq] at a
  have a':e.length=us.length:=by simpa using a
  rw [gH]
  refine List.mem_flatMap.mpr ⟨e,ih us (by simpa using hk) e (fJ a' λj x m hx hm=>b j x m (by rw [Qt (Qd.mp hx).1]; exact hx) (by rw [Qt (Qd.mp hm).1]; exact hm)),Qw.mpr ⟨h,?_,rfl⟩⟩
  exact b us.length h l (by rw [<- a']; simp) (by simp)
def Hv (n:Int) (ws:List (List Int)) (lv:List Int) (j:Nat) (x:Int):Prop:=∃ d,bJ ws (bA d)=true/\Lvl n ws d lv/\((d.count (j:Int):Nat):Int)=x
def Ris (r:List Int) (p:Int->Prop):Prop:=r.Pairwise (· < ·)/\∀ x,x∈r↔p x
theorem Ris.uniq {a b:List Int} {p:Int->Prop} (h1:Ris a p) (h2:Ris b p):a=b:=by
 have nd:∀ {l:List Int},l.Pairwise (· < ·)->l.Nodup:=λh=>h.imp λh e=>by omega
 refine List.Perm.eq_of_pairwise (le:=(· < ·)) (λx y _ _ h1 h2=>by omega) h1.1 h2.1 ?_
 exact (List.perm_ext_iff_of_nodup (nd h1.1) (nd h2.1)).mpr λx=>(h1.2 x).trans (h2.2 x).symm
theorem aFy {i:Nat} (hb:bC (aV n ws)=true) (hi:i < ws.length):Ris (goR n ws lv i) (Go n ws lv i):=by
 have e:=Qc hi
 unfold goR
 rw [Qu,e]
 show Ris (ws[i].filter _) _
 refine ⟨List.Pairwise.filter _ (bL ((bB hb).2.2.2 _ (Xb hi))).2.2,λx=>?_⟩
 rw [Jz,wL]
 refine ⟨λh=>h.2,λh=>⟨?_,h⟩⟩
 obtain ⟨d,hd,hx,_⟩:=h
 exact (aR hd).2 i x _ hx e
end Ab
namespace L2
open PySem
theorem jN (hw:X.w=w) (hc:X.calm=true):dM X (.builtin "sorted") (λxs H Q=>∃ (p:Addr) (ns:List Int),xs = [.ref p]/\H p=some (vP w p ns)/\ns.length<=12/\∀ q out,nO out ns->H q=none->Q (.ref q) (upd H q (.lst (out.map V.int)))):=by subst hw; exact nQ hc
theorem aAM {fr:List Nat} {d:Expr} (hw:X.w=w) (S:CompOk X scope z own fr frn) (hc:X.calm=true) (hi:PE X d td) (hg:∀ C s0 H0 fp,PG (bP X scope z (own++frn) C s0 H0 fp) tg g) (ht:∀ C s0 H0 fp,PF (bP X scope z (own++frn) C s0 H0 fp) ifs tt) (he:∀ C s0 H0 fp,PE (bP X scope z (own++frn) C s0 H0 fp) elt te) (hs:∀ x,foldedSetIterable d X.env x=pure x:=by intro _; rfl):PE X (.SetComp elt [⟨tg,d,ifs,0⟩] scope pos) (aA9 w own.length fr td g tt te):=by subst hw; exact aCp S hc hi hg ht he hs
end L2
namespace Ab
open PySem L2
theorem aEn (hb:bC (aV n ws)=true) (hl:lv.length=n.toNat) (L:Lvl n ws hs lv) {p:List Int×Int} (hp:p∈eU n.toNat lv ws) (hj:j < n.toNat):p.1[j]?=some (p.1.getD j 0)/\p.1.getD j 0∈[lv.getD j 0,lv.getD j 0+1]/\Hv n ws lv j (p.1.getD j 0):=by
 obtain ⟨d,hd,Ld,e⟩:=(zI hb hl L p.1).mp ⟨p,hp,rfl⟩
 have c:p.1[j]?=some ((d.count (j:Int):Nat):Int):=by
  rw [<- e]
  unfold aF bZ
  rw [Jo,Qe,Xe hj]; rfl
 have g:p.1.getD j 0=((d.count (j:Int):Nat):Int):=by rw [Qu,c]; rfl
 have b:=Ld.box j (by omega) (by omega)
 unfold lvA at b
 rw [Jj] at b
 rw [g]
 refine ⟨c,?_,d,cE _ ws rfl d hd,Ld,rfl⟩
 rw [Qn,Qo]
 omega
theorem aEo (hb:bC (aV n ws)=true) (hl:lv.length=n.toNat) (L:Lvl n ws hs lv) (hj:j < n.toNat) (x:Int):x∈(eU n.toNat lv ws).map (λp=>p.1.getD j 0)↔Hv n ws lv j x:=by
 rw [Qw]
 refine ⟨λ⟨p,hp,e⟩=>e ▸ (aEn hb hl L hp hj).2.2,λ⟨d,hd,Ld,e⟩=>?_⟩
 obtain ⟨p,hp,ep⟩:=(zI hb hl L _).mpr ⟨d,hX _ ws rfl d hd,Ld,rfl⟩
 refine ⟨p,hp,?_⟩
 rw [ep,Qu]
 unfold aF bZ
 rw [Jo,Qe,Xe hj]
 exact e
def aGL:Scope:=match (eK hV).getD 1 (.Pass ⟨0,0,0,0⟩) with
 | .Return (some (.ListComp _ _ sc _)) _=>sc
 | _=>aG hV
def uQ (K:Rc) (Pt:Addr):Sp:=λvs H Q _=>∃ (x:V) (n:Int) (ws:List (List Int)),vs = [x]/\Den K H (aV n ws) x/\bC (aV n ws)=true/\H Pt=some (.tab oC)/\∀ (p:Addr) (qs:List Addr) (hs lv:List Int) H',aD H H'->bJ ws (bA hs)=true->Lvl n ws hs lv->H' p=some (.lst (qs.map V.ref))->qs.length=n.toNat->(∀ (j:Nat) q,qs[j]?=some q->∃ r,H' q=some (.tup (r.map V.int))/\Ris r (Hv n ws lv j))->Q (.ref p) H'
theorem uR:FnScope ["book", "rows"] ["book"] (aG hV):=⟨rfl,rfl,rfl,by decide +kernel,rfl,by decide +kernel,by decide +kernel⟩
set_option maxHeartbeats 2000000 in
theorem aAN (G:Fn K mg "may_have" hV ["book"] f fd) (B:Bl mg) (GEL:Fn K mg "even_loads" iX ["book"] fE dE) (OEL:FnOk P w K mg base CX0 12 fE dE ["book"] (qQ K Pt)):FnOk P w K mg base CX0 13 f fd ["book"] (uQ K Pt):=by
 refine G.fn.ok uR (λvs H Q E h=>?_) (λcdv A outer s H vs Q E hr h=>?_)
 ·obtain ⟨x,n,ws,rfl,_⟩:=h
  rfl
 ·obtain ⟨x,n,ws,rfl,hx,hbk,hP,k⟩:=h
  have r12:Room 12 _:=hr
  refine ⟨_,(aE (aS (i:=1) uR.nd rfl (Or.inr rfl) (bF GEL OEL r12 rfl (aA (pv 0) aC)))
   (aJ (aX (cB (z:=some "hand") (own:=["hand"]) (fr:=[1]) (frn:=["rows"]) (mX (aG hV) ["book", "rows"] rfl rfl (λ_ _=>rfl) (λ_=>rfl) (by decide +kernel)) rfl (dP rfl B.range (aA (aZ (cN (K:=K) rfl) (pv 0) aI (λ_ _=>rfl)) aC))
    (λ_ _ _ _=>aK (i:=0) (show (["hand", "rows"]:List Str).Nodup by decide +kernel) rfl (Or.inr rfl)) (λ_ _ _ _=>dO)
    (λ_ _ _ _=>bR (aAc (K:=K) rfl) rfl B.tuple cM (aA (aM (jN (w:=w) rfl rfl) rfl B.sorted jW (aA (aAM (w:=w) rfl (own:=["many"]) (fr:=[0]) (frn:=["hand"]) (bG (aEL aGL (aG hV)) ["hand", "rows"] rfl rfl (by decide +kernel)) rfl (pv 1)
     (λ_ _ _ _=>aK (i:=0) (show (["many", "hand"]:List Str).Nodup by decide +kernel) rfl (Or.inl rfl)) (λ_ _ _ _=>dO) (λ_ _ _ _=>aZ (cN (K:=K) rfl) (pv 0) (pv 1) (λ_ _=>rfl))) aC)) aC)))))),?_⟩
  obtain ⟨hn1,hn6,hw12,hws⟩:=bB hbk
  refine ⟨_,rfl,x,n,ws,rfl,hx,hbk,hP,λrp hs lv H1 s1 hd L e1=>?_⟩
  obtain ⟨ba,bb,ys,rfl,ha,hb2,hys⟩:=cY (s1.den _ _ hx)
  have LL:=wJ L (dY hbk hd) (lR hbk)
  have hM:=λp hp (j:Nat) hj=>aEn (p:=p) (j:=j) hbk L.1 LL hp hj
  have hI:=λj hj=>aEo (j:=j) hbk L.1 LL hj
  have ek:∀ (i:Nat) p,(enc (eU n.toNat lv ws))[i]?=some p->∃ q,(eU n.toNat lv ws)[i]?=some q/\p=(q.1.map Sum.inl,.int q.2):=λi p h=>by
   unfold enc at h
   rw [Qe] at h
   cases q:(eU n.toNat lv ws)[i]? with
   | none=>rw [q] at h; cases h
   | some u=>rw [q] at h; exact ⟨u,rfl,(Option.some.inj h).symm⟩
  have el:(enc (eU n.toNat lv ws)).length=(eU n.toNat lv ws).length:=by unfold enc; rw [Qb]
  generalize enc (eU n.toNat lv ws)=kvs at e1 ek el
  generalize eU n.toNat lv ws=M at ek el hM hI
  dsimp only [fV]
  have kl:∀ {H'},aD H1 H'->H' rp=some (.dT kvs):=λs=>s _ _ e1
  refine ⟨_,rfl,ba,_,0,.int n,rfl,rfl,ha,rfl,n,rfl,by omega,by omega,dZ (lo:=0) (n:=n.toNat) (λσ=>∃ v,σ = [v,some (.ref rp)]) (λi zs H2=>aD H1 H2/\∃ qs:List Addr,zs=qs.map V.ref/\qs.length=i/\∀ (j:Nat) q,qs[j]?=some q->∃ r,H2 q=some (.tup (r.map V.int))/\Ris r (Hv n ws lv j)) (cZ (by omega)) ⟨none,rfl⟩ ⟨aD.refl _,[],rfl,rfl,λj q h=>by simp at h⟩ (λi zs _ h=>by obtain ⟨_,qs,rfl,h,_⟩:=h; rw [Qb]; omega) ?_ ?_⟩
  ·rintro j zs σ H2 hj ⟨v,rfl⟩ ⟨s2,qs,rfl,hz2,hqs⟩ hz
   refine cI ?_
   refine ⟨[lv.getD j 0,lv.getD j 0+1],by show 2<=11; decide,_,rfl,rp,kvs,rfl,kl s2,λo=>?_⟩
   refine yF (λσ=>∃ v,σ = [v,some (.int (0+(j:Int)))]) (λi ys H3=>ys=(M.take i).map (λp=>p.1.getD j 0)/\H3 rp=some (.frz o (.dT kvs))/\∀ b u,b≠rp->H2 b=some u->H3 b=some u) ⟨none,rfl⟩ ⟨rfl,aB,λb u n e=>by rw [aH n]; exact e⟩ (λ_ _ _ h=>h.2.1) ?_ ?_
   ·rintro i ys σ p b H3 hp hb ⟨v,rfl⟩ h3
    obtain ⟨q,hq,rfl⟩:=ek i p hp
    obtain ⟨hx,hx2,_⟩:=hM q (Qi hq) _ hj
    have hb':H3 b=some (.tup (q.1.map V.int)):=by rw [<- pN]; exact hb
    refine cI ?_
    refine ⟨_,rfl,_,rfl,b,_,(0+(j:Int)),.int (q.1.getD j 0),rfl,rfl,SqT.of hb',by rw [Zd]; exact cF (by rw [Qe,hx]; rfl),?_⟩
    exact ⟨_,rfl,hx2,⟨_,rfl⟩,by rw [h3.1,Jd,hq,Qp]; rfl,h3.2⟩
   ·rintro ys H3 ⟨hy3,h3,k3⟩ p us hp nd hu hl
    have npr:p≠rp:=λz=>by rw [z,h3] at hp; cases hp
    refine ⟨p,us,rfl,by rw [aH npr]; exact aB,by omega,λq out hso hq=>?_⟩
    refine ⟨q,_,rfl,.inl ⟨SqL.of aB,λl hl'=>?_⟩⟩
    have s4:aD H1 (upd (upd H3 p (vP w p us)) rp (.dT kvs)):=λb u e=>by
     by_cases hb:b=rp
     ·subst hb
      rw [aB,<- e1,e]
     ·rw [aH hb,aH (λz=>by
       have:=k3 b u hb (s2 _ _ e)
       rw [z,hp] at this; cases this)]
      exact k3 b u hb (s2 _ _ e)
    have s5:=s4.trans ((aD.new hq).trans (aD.new (o:=.tup (out.map V.int)) hl'))
    have s25:∀ b u,b≠rp->H2 b=some u->upd (upd (upd (upd H3 p (vP w p us)) rp (.dT kvs)) q (.lst (out.map V.int))) l (.tup (out.map V.int)) b=some u:=λb u nb e=>by
     refine ((aD.new hq).trans (aD.new hl')) _ _ ?_
     rw [aH nb,aH (λz=>by
       have:=k3 b u nb e
       rw [z,hp] at this; cases this)]
     exact k3 b u nb e
    refine ⟨hz,⟨_,rfl⟩,s5,qs++[l],by rw [Qp]; rfl,by rw [Qq,hz2]; rfl,λjj q' hq'=>?_⟩
    by_cases hjj:jj < qs.length
    ·rw [Qt hjj] at hq'
     obtain ⟨r,hr1,hr2⟩:=hqs jj q' hq'
     exact ⟨r,s25 q' _ (λz=>by rw [z,kl s2] at hr1; cases hr1) hr1,hr2⟩
    ·rw [Ji (by omega)] at hq'
     have e0:jj - qs.length=0:=by have:=(Qd.mp hq').1; simp at this; omega
     rw [e0] at hq'
     cases hq'
     have ej:jj=j:=by omega
     subst ej
     refine ⟨out,aB,hso.1,λx=>?_⟩
     rw [hso.2,hu,hy3,el,Jf,hI jj hj]
  ·rintro zs H2 ⟨s2,qs,rfl,hl,hqs⟩ p hp
   refine k p qs hs lv _ (s1.trans (s2.trans (aD.new hp))) hd LL aB hl λj q hq=>?_
   obtain ⟨r,h1,h2⟩:=hqs j q hq
   exact ⟨r,aD.new hp _ _ h1,h2⟩
def bW:List (List Int)->Nat
 | []=>1
 | l::r=>l.length*bW r
theorem iL (l:List Int):∀ ws:List (List Int),bW (ws++[l])=bW ws*l.length
 | []=>by show l.length*1=1*l.length; omega
 | k::r=>by
  show k.length*bW (r++[l])=k.length*bW r*l.length
  rw [iL l r,Nat.mul_assoc]
theorem lT:∀ {ws:List (List Int)},(∀ l∈ws,1<=l.length)->1<=bW ws
 | [],_=>Qh _
 | l::r,h=>Zj (h l (Qj ..)) (lT λk hk=>h k (Qk _ hk))
theorem wM (h:∀ l∈ws,1<=l.length):∀ i,bW (ws.take i)<=bW ws:=by
 induction ws with
 | nil=>intro i; rw [List.take_nil]; exact Qh _
 | cons l r ih =>
  intro i
  cases i with
  | zero=>exact lT h
  | succ i =>
   show l.length*bW (r.take i)<=l.length*bW r
   exact Zj (Qh _) (ih (λk hk=>h k (Qk _ hk)) i)
def aFU (K:Rc):Sp:=λvs H Q _=>∃ (x:V) (n:Int) (ws:List (List Int)) (mo:Nat),vs = [x,.int mo]/\1<=mo/\Den K H (aV n ws) x/\bC (aV n ws)=true/\∀ (p:Addr) H' (ws':List (List Int)),aD H H'->Den K H' (aV n ws') (.ref p)->bC (aV n ws')=true->bW ws'<=mo->Q (.ref p) H'
theorem uS:FnScope ["book", "most", "works", "many", "able"] ["book", "most"] (aG aFc):=⟨rfl,rfl,rfl,by decide +kernel,rfl,by decide +kernel,by decide +kernel⟩
theorem aGM (G:Fn K mg "_law_b_few" aFc ["book", "most"] f fd) (B:Bl mg):FnOk P w K mg base CX0 1 f fd ["book", "most"] (aFU K):=by
 refine G.fn.ok uS (λvs H Q E h=>?_) (λcdv A outer s H vs Q E hr h=>?_)
 ·obtain ⟨x,n,ws,mo,rfl,_⟩:=h
  rfl
 ·obtain ⟨x,n,ws,mo,rfl,hmo,hx,hbk,k⟩:=h
  refine ⟨_,(aE (aS (i:=2) uS.nd rfl (Or.inl rfl) (cH aC))
  (aE (aS (i:=3) uS.nd rfl (Or.inl rfl) aI)
  (aE (eF PassesOwn.never rfl (gB (aZ bY (pv 0) aI (λ_ _=>rfl))) (aK (i:=4) uS.nd rfl (Or.inl rfl))
   (aE (aS (i:=3) uS.nd rfl (Or.inl rfl) (bH iV (pv 3) (aM aY rfl B.len eV (aA (pv 4) aC))))
  (aJ (cJ (bE qT (pv 3) (pv 1) (bD _))
   (aJ (aS (i:=2) uS.nd rfl (Or.inl rfl) (bH qH (pv 2) (cH (aA (pv 4) aC)))))
   bI))))
  (aJ (aX (cH (aA (aZ bY (pv 0) aI (λ_ _=>rfl)) (aA (pv 2) aC)))))))),?_⟩
  obtain ⟨hn1,hn6,hw12,hws⟩:=bB hbk
  obtain ⟨a,b,ys,rfl,ha,hb2,hys⟩:=cY hx
  have hlw:=aN hys
  rw [Qb] at hlw
  refine ⟨cZ (show 0<=1000 by decide),λwp hwp=>?_⟩
  have s1:=aD.new (o:=.tup []) hwp
  have w1:SqT K (upd H wp (.tup [])) wp []:=SqT.of aB
  generalize upd H wp (.tup [])=H1 at s1 w1 ⊢
  refine ⟨_,rfl,a,_,1,.ref b,rfl,rfl,s1.seqT ha,rfl,b,rfl,⟨_,s1.seqT hb2⟩,lU (K:=K) (a:=b) (xs:=ys) (λi σ H2=>∃ (wq:Addr) (m:Nat) (zs:List V) (ws':List (List Int)) (v4:Option V),σ = [some (.ref a),some (.int mo),some (.ref wq),some (.int (m:Nat)),v4]/\aD H H2/\SqT K H2 wq zs/\aT K H2 (ws'.map bM) zs/\ws'.length<=i/\(∀ l∈ws',cO n (bM l)=true)/\bW ws'<=m/\bW ws'<=mo/\m<=6^i)
   ⟨wp,1,[],[],none,rfl,s1,w1,aO.mpr rfl,Qh _,λ_ h=>(Qs h).elim,Qh _,hmo,by decide⟩ (λi σ H2 _ ⟨_,_,_,_,_,_,s2,_⟩=>s2.seqT hb2) ?_ ?_⟩
  ·rintro i u σ H2 hu ⟨wq,m,zs,ws',v4,rfl,s2,hwq,hzs,hwl,hwk,hp1,hp2,hm⟩
   obtain ⟨dv,hdv,denv⟩:=bU hys hu
   rw [Qe] at hdv
   obtain ⟨l,hl,rfl⟩:∃ l,ws[i]?=some l/\bM l=dv:=by
    cases q:ws[i]? with
    | none=>rw [q] at hdv; cases hdv
    | some l=>rw [q] at hdv; exact ⟨l,rfl,Option.some.inj hdv⟩
   obtain ⟨aw,rfl,haw⟩:=aP.mp denv
   have hlk:=hws l (Qi hl)
   obtain ⟨l0,l1,l2⟩:=bL hlk
   have hl6:l.length<=6:=by have:=eG (by omega) l1 l2; omega
   have hl1:1<=l.length:=Xl.mpr l0
   have hi12:i < 12:=by have:=(Qd.mp hl).1; omega
   have hm2:m*l.length<=6^(i+1):=by rw [Qav]; exact Zj hm hl6
   have hbig:m<=2176782336:=Je hm (Je (Qac (by decide) (show i<=12 by omega)) (by decide))
   have em:((m:Nat):Int)*((l.map V.int).length:Int)=((m*l.length:Nat):Int):=by rw [Qb,Int.natCast_mul]
   refine ⟨_,rfl,_,rfl,aw,_,rfl,.inr (s2.seqT haw),_,_,rfl,rfl,?_,?_⟩
   ·rw [Qb]
    exact .inl ⟨by omega,by omega⟩
   dsimp only
   rw [em]
   refine ⟨_,rfl,_,rfl,_,_,rfl,rfl,_,rfl,?_⟩
   have hmm:bW ws'<=m*l.length:=Je hp1 (by have:=Zj (Qh m) hl1; omega)
   refine cU (λc=>?_) (λc=>?_)
   ·have c':m*l.length<=mo:=by have:=of_decide_eq_true c; omega
    refine ⟨_,rfl,_,rfl,sz1 _,λq1 hq1=>?_⟩
    have s3:=aD.new (o:=.tup [.ref aw]) hq1
    refine ⟨wq,q1,zs,_,rfl,rfl,s3.seqT hwq,SqT.of aB,by rw [aN hzs,Qb,Rf]; show _+1<=_; omega,λq2 H3 s4 hq2=>?_⟩
    have s24:=s3.trans s4
    have hpp:bW (ws'++[l])<=m*l.length:=by rw [iL]; exact Zj hp1 (Qh _)
    have hq2':SqT K H3 q2 (zs++[.ref aw]):=hq2
    refine ⟨q2,m*l.length,zs++[.ref aw],ws'++[l],_,rfl,s2.trans s24,hq2',?_,by rw [Qq]; show _+1<=_; omega,λk hk=>?_,hpp,Je hpp c',hm2⟩
    ·rw [Qp]
     exact bO (s24.denAll _ _ hzs) (aL.mpr ⟨_,[],rfl,(s2.trans s24).den _ _ denv,aO.mpr rfl⟩)
    ·rcases Jh.mp hk with h | h
     ·exact hwk k h
     ·rw [Qo.mp h]; exact hlk
   ·exact ⟨wq,m*l.length,zs,ws',_,rfl,s2,hwq,hzs,by omega,hwk,hmm,hp2,hm2⟩
  ·rintro σ H2 ⟨wq,m,zs,ws',v4,rfl,s2,hwq,hzs,hwl,hwk,hp1,hp2,hm⟩
   refine ⟨_,rfl,a,_,0,.int n,rfl,rfl,s2.seqT ha,rfl,_,rfl,sz2 _ _,λp hp=>?_⟩
   have s3:=aD.new (o:=.tup [.int n,.ref wq]) hp
   exact k p _ ws' (s2.trans s3) (iQ (SqT.of aB) (s3.seqT hwq) (s3.denAll _ _ hzs)) (kL hn1 hn6 (by omega) hwk) hp2
theorem iM:∀ (k:Nat) (ws:List (List Int)),ws.length=k->(aW ws).length=bW ws:=by
 intro k
 induction k with
 | zero =>
  intro ws hk
  have:ws = []:=Jp.mp hk
  subst this
  rfl
 | succ k ih =>
  intro ws hk
  obtain ⟨us,l,rfl⟩:∃ us l,ws=us++[l]:=⟨ws.dropLast,ws.getLast (by intro z; rw [z] at hk; simp at hk),(Xp _).symm⟩
  rw [gH,iL,<- ih us (by simpa using hk),List.length_flatMap]
  generalize aW us=D
  induction D with
  | nil=>simp
  | cons d D ih2 =>
   rw [Qy,List.sum_cons,ih2,Qb,Ja,Nat.add_mul,Nat.one_mul]
   omega
def sO (K:Rc):Sp:=λvs H Q _=>∃ (x:V) (n:Int) (ws:List (List Int)),vs = [x]/\Den K H (aV n ws) x/\bC (aV n ws)=true/\bW ws<=300/\∀ (p:Addr) H' (xs:List V),aD H H'->H' p=some (.lst xs)->aT K H' ((aW ws).map bA) xs->Q (.ref p) H'
theorem fU:FnScope ["book", "found", "able", "longer", "deal"] ["book"] (aG jY):=⟨rfl,rfl,rfl,by decide +kernel,rfl,by decide +kernel,by decide +kernel⟩
set_option maxHeartbeats 1000000 in
theorem zJ (G:Fn K mg "_law_b_all_deals" jY ["book"] f fd) (B:Bl mg):FnOk P w K mg base CX0 1 f fd ["book"] (sO K):=by
 refine G.fn.ok fU (λvs H Q E h=>?_) (λcdv A outer s H vs Q E hr h=>?_)
 ·obtain ⟨x,n,ws,rfl,_⟩:=h
  rfl
 ·obtain ⟨x,n,ws,rfl,hx,hbk,hpl,k⟩:=h
  refine ⟨_,(aE (aS (i:=1) fU.nd rfl (Or.inl rfl) (eP (aA (cH aC) aC)))
  (aE (eF PassesOwn.never rfl (gB (aZ bY (pv 0) aI (λ_ _=>rfl))) (aK (i:=2) fU.nd rfl (Or.inl rfl))
   (aE (aS (i:=3) fU.nd rfl (Or.inl rfl) (eP aC))
  (aE (eF PassesOwn.never rfl (eZ (pv 1)) (aK (i:=4) fU.nd rfl (Or.inr rfl))
   (aJ (aS (i:=3) fU.nd rfl (Or.inl rfl) (bH aCY (pv 3) (cB (own:=["hand"]) (fr:=[4]) (frn:=["deal"]) (bG (aG jY) ["book", "found", "able", "longer", "deal"] rfl rfl (by decide +kernel)) rfl (gB (pv 2))
    (λ_ _ _ _=>(aK (i:=0) (show (["hand", "deal"]:List Str).Nodup by decide +kernel) rfl (Or.inl rfl))) (λ_ _ _ _=>dO)
    (λ_ _ _ _=>(bH (lH (K:=K) rfl) (pv 1) (cH (aA (pv 0) aC)))))))))
  (aJ (aS (i:=1) fU.nd rfl (Or.inl rfl) (pv 3))))))
  (aJ (aX (pv 1))))),?_⟩
  obtain ⟨hn1,hn6,hw12,hws⟩:=bB hbk
  obtain ⟨a,b,ys,rfl,ha,hb2,hys⟩:=cY hx
  have hlw:=aN hys
  rw [Qb] at hlw
  have hlen1:∀ l∈ws,1<=l.length:=λl hl=>Xl.mpr (bL (hws l hl)).1
  refine ⟨cZ (show 0<=1000 by decide),λep hep=>⟨sz1 _,λfp hfp=>?_⟩⟩
  have se:=aD.new (o:=.tup []) hep
  have sf:=aD.new (o:=.lst [.ref ep]) hfp
  have s1:=se.trans sf
  have e1:SqT K (upd (upd H ep (.tup [])) fp (.lst [.ref ep])) ep []:=sf.seqT (SqT.of aB)
  have f1:upd (upd H ep (.tup [])) fp (.lst [.ref ep]) fp=some (.lst [.ref ep]):=aB
  generalize upd (upd H ep (.tup [])) fp (.lst [.ref ep])=H1 at s1 e1 f1 ⊢
  refine ⟨_,rfl,a,_,1,.ref b,rfl,rfl,s1.seqT ha,rfl,b,rfl,⟨_,s1.seqT hb2⟩,lU (K:=K) (a:=b) (xs:=ys) (λi σ H2=>∃ (fq:Addr) (xs:List V) (v2 v3 v4:Option V),σ = [some (.ref a),some (.ref fq),v2,v3,v4]/\aD H H2/\H2 fq=some (.lst xs)/\aT K H2 ((aW (ws.take i)).map bA) xs)
   ⟨fp,[.ref ep],_,_,_,rfl,s1,f1,aL.mpr ⟨_,[],rfl,aP.mpr ⟨ep,rfl,e1⟩,aO.mpr rfl⟩⟩ (λi σ H2 _ ⟨_,_,_,_,_,_,s2,_⟩=>s2.seqT hb2) ?_ ?_⟩
  ·rintro i u σ H2 hu ⟨fq,xs,v2,v3,v4,rfl,s2,f2,hxs⟩
   have hxl:xs.length=bW (ws.take i):=by rw [aN hxs,Qb,iM _ _ rfl]
   obtain ⟨dv,hdv,denv⟩:=bU hys hu
   rw [Qe] at hdv
   obtain ⟨l,hl,rfl⟩:∃ l,ws[i]?=some l/\bM l=dv:=by
    cases q:ws[i]? with
    | none=>rw [q] at hdv; cases hdv
    | some l=>rw [q] at hdv; exact ⟨l,rfl,Option.some.inj hdv⟩
   obtain ⟨aw,rfl,haw⟩:=aP.mp denv
   have hi12:i < 12:=by have:=(Qd.mp hl).1; omega
   have etake:bW (ws.take (i+1))=bW (ws.take i)*l.length:=by rw [Jd,hl,<- iL]; rfl
   have hle:=wM hlen1 (i+1)
   refine ⟨cZ (show 0<=1000 by decide),λlp hlp=>?_⟩
   have s3:=s2.trans (aD.new (o:=.lst []) hlp)
   have l3:upd H2 lp (.lst []) lp=some (.lst []):=aB
   have f3:=(aD.new (o:=.lst []) hlp) _ _ f2
   have x3:aT K (upd H2 lp (.lst [])) ((aW (ws.take i)).map bA) xs:=(aD.new hlp).denAll _ _ hxs
   generalize upd H2 lp (.lst [])=H3 at s3 l3 f3 x3 ⊢
   refine ⟨_,rfl,fq,rfl,⟨_,SqL.of f3⟩,jO (K:=K) (a:=fq) (xs:=xs) (λj σ H4=>∃ (lq:Addr) (zs:List V) (v4:Option V),σ = [some (.ref a),some (.ref fq),some (.ref aw),some (.ref lq),v4]/\aD H3 H4/\H4 lq=some (.lst zs)/\zs.length=j*l.length/\aT K H4 ((((aW (ws.take i)).take j).flatMap λd=>l.map λh=>d++[h]).map bA) zs)
    ⟨lp,[],_,rfl,aD.refl _,l3,by rw [Nat.zero_mul]; rfl,aO.mpr rfl⟩ (λj σ H4 _ ⟨_,_,_,_,s4,_⟩=>s4.seqL (SqL.of f3)) ?_ ?_⟩
   ·rintro j dv σ H4 hdv ⟨lq,zs,v4,rfl,s4,l4,hzl,hzs⟩
    obtain ⟨dd,hdd,dend⟩:=bU (s4.denAll _ _ x3) hdv
    rw [Qe] at hdd
    obtain ⟨hs,ehs,rfl⟩:∃ hs,(aW (ws.take i))[j]?=some hs/\bA hs=dd:=by
     cases q:(aW (ws.take i))[j]? with
     | none=>rw [q] at hdd; cases hdd
     | some hs=>rw [q] at hdd; exact ⟨hs,rfl,Option.some.inj hdd⟩
    obtain ⟨dq,rfl,hdq⟩:=aP.mp dend
    have hhl:hs.length=i:=by
     have:=(aR (cE _ _ rfl hs (Qi ehs))).1
     rw [this,Qv]; have:=(Qd.mp hl).1; omega
    have hj:j < xs.length:=(Qd.mp hdv).1
    have hbnd:(j+1)*l.length<=300:=Je (Zj (by omega:j+1<=bW (ws.take i)) (Qh _)) (by omega)
    have ejl:(j+1)*l.length=j*l.length+l.length:=by rw [Nat.add_mul,Nat.one_mul]
    refine ⟨_,rfl,_,rfl,aw,rfl,⟨_,(s3.trans s4).seqT haw⟩,jT (K:=K) (a:=aw) (xs:=l.map V.int) (λσ=>∃ v,σ = [v,some (.ref dq)]) (λm cs H5=>aD H4 H5/\cs.length=m/\aT K H5 (((l.take m).map λh=>hs++[h]).map bA) cs) (cZ (by rw [Qb]; omega)) ⟨none,rfl⟩ ⟨aD.refl _,rfl,aO.mpr rfl⟩ (λm cs H5 z=>by rw [z.2.1]; exact Qh _) (λm cs H5 z=>z.1.seqT ((s3.trans s4).seqT haw)) ?_ ?_⟩
    ·rintro m cs σ hv H5 hhv ⟨v,rfl⟩ ⟨s5,hcl,hcs⟩ hsz
     obtain ⟨h,hh,rfl⟩:=wG hhv
     refine cI ?_
     refine ⟨_,rfl,_,rfl,sz1 _,λq1 hq1=>?_⟩
     have s6:=aD.new (o:=.tup [.int h]) hq1
     refine ⟨dq,q1,_,_,rfl,rfl,(s5.trans s6).seqT hdq,SqT.of aB,by rw [Qb,Rf]; show _+1<=_; omega,λq2 H7 s7 hq2=>⟨hsz,⟨_,rfl⟩,s5.trans (s6.trans s7),by rw [Qq,hcl]; rfl,?_⟩⟩
     rw [Jd,hh,Qp,Qp]
     exact bO ((s6.trans s7).denAll _ _ hcs) (aL.mpr ⟨_,[],rfl,aP.mpr ⟨q2,rfl,by rw [Qp]; exact hq2⟩,aO.mpr rfl⟩)
    ·rintro cs H5 ⟨s5,hcl,hcs⟩ cp hcp
     rw [Qb] at hcl
     have s6:=aD.new (o:=.lst cs) hcp
     refine ⟨lq,cp,zs,cs,rfl,rfl,(s5.trans s6) _ _ l4,aB,by rw [Rf]; omega,λnp hnp=>?_⟩
     have s7:=s5.trans (s6.trans (aD.new (o:=.lst (zs++cs)) hnp))
     refine ⟨np,zs++cs,_,rfl,s4.trans s7,aB,by rw [Qq]; omega,?_⟩
     rw [Jd,ehs,List.flatMap_append,Qp]
     refine bO (s7.denAll _ _ hzs) ?_
     rw [Qb,Jf] at hcs
     show aT K _ (([hs].flatMap λd=>l.map λh=>d++[h]).map bA) cs
     rw [List.flatMap_singleton]
     exact (s6.trans (aD.new hnp)).denAll _ _ hcs
   ·rintro σ H4 ⟨lq,zs,v4,rfl,s4,l4,hzl,hzs⟩
    rw [Jq (show (aW (ws.take i)).length<=xs.length by rw [hxl,iM _ _ rfl]; exact Qh _)] at hzs
    refine ⟨_,rfl,lq,zs,_,_,_,rfl,s3.trans s4,l4,?_⟩
    rw [Jd,hl]
    show aT K H4 ((aW (ws.take i++[l])).map bA) zs
    rw [gH]
    exact hzs
  ·rintro σ H2 ⟨fq,xs,v2,v3,v4,rfl,s2,f2,hxs⟩
   rw [Jq (show ws.length<=ys.length by omega)] at hxs
   exact ⟨_,rfl,k fq H2 xs s2 f2 hxs⟩
section
variable {c d ys:List Int}
theorem aCE (hb:bC (aV n ws)=true) (hc:bJ ws (bA c)=true) (hd:bJ ws (bA d)=true) (p1:ms.Perm (aF n c)) (p2:ys.Perm (aF n d)) (s1:ms.Pairwise (·≥·)) (s2:ys.Pairwise (·≥·)) (b:eM ms ys=true) (L:Lvl n ws d lv):Lvl n ws c lv:=by
 have hl:(aF n d).length=(aF n c).length:=by unfold aF; rw [Qb,Qb]
 have z:=iK hl (λt=>L.least hb hd hc t) p2 p1 s1
 have e:=uN (by rw [p1.length_eq,p2.length_eq,hl]) b z
 exact (L.iff hb hd hc).mp (p1.symm.trans (e ▸ p2))
theorem aCF (hb:bC (aV n ws)=true) (hc:bJ ws (bA c)=true) (hd:bJ ws (bA d)=true) (p1:ms.Perm (aF n c)) (p2:ys.Perm (aF n d)) (s2:ys.Pairwise (·≥·)) (b:eM ms ys=false) (L:Lvl n ws c lv):False:=by
 have hl:(aF n c).length=(aF n d).length:=by unfold aF; rw [Qb,Qb]
 rw [iK hl (λt=>L.least hb hc hd t) p1 p2 s2] at b
 cases b
def gI (n:Int) (ws:List (List Int)) (i:Nat) (c:List Int):Prop:=bJ ws (bA c)=true/\∀ d lv,d∈(aW ws).take i->Lvl n ws d lv->Lvl n ws c lv
theorem gI.stay {i:Nat} (h:gI n ws i c) (hb:bC (aV n ws)=true) (hd:(aW ws)[i]?=some d) (p1:ms.Perm (aF n c)) (p2:ys.Perm (aF n d)) (s1:ms.Pairwise (·≥·)) (s2:ys.Pairwise (·≥·)) (b:eM ms ys=true):gI n ws (i+1) c:=by
 refine ⟨h.1,λe lv he L=>?_⟩
 rw [Jd,hd] at he
 rcases Jh.mp he with he | he
 ·exact h.2 e lv he L
 ·have e1:e=d:=Qo.mp he
  subst e1
  exact aCE hb h.1 (cE _ ws rfl e (Qi hd)) p1 p2 s1 s2 b L
theorem gI.turn {i:Nat} (h:gI n ws i c) (hb:bC (aV n ws)=true) (hd:(aW ws)[i]?=some d) (p1:ms.Perm (aF n c)) (p2:ys.Perm (aF n d)) (s2:ys.Pairwise (·≥·)) (b:eM ms ys=false):gI n ws (i+1) d:=by
 have dd:=cE _ ws rfl d (Qi hd)
 refine ⟨dd,λe lv he L=>?_⟩
 rw [Jd,hd] at he
 rcases Jh.mp he with he | he
 ·exact (aCF hb h.1 dd p1 p2 s2 b (h.2 e lv he L)).elim
 ·have e1:e=d:=Qo.mp he
  rw [<- e1]; exact L
theorem gI.all (h:gI n ws (aW ws).length c) (hd:bJ ws (bA d)=true) (L:Lvl n ws d lv):Lvl n ws c lv:=h.2 d lv (by rw [Jf]; exact hX _ ws rfl d hd) L
theorem sP (hb:bC (aV n ws)=true) (h:gI n ws (aW ws).length c) (hd:bJ ws (bA d)=true) (L:Lvl n ws d lv) {e:List Int} (he:e∈aW ws):(aF n e).Perm (aF n c)↔Lvl n ws e lv:=(h.all hd L).iff hb h.1 (cE _ ws rfl e he)
end
theorem mS (hK:X.K=K):dM X (.builtin "sorted") (λxs H Q=>∃ (a:Addr) (ns:List Int),xs = [.ref a]/\(SqL K H a (ns.map V.int)∨SqT K H a (ns.map V.int))/\ns.length < 64/\∀ (p:Addr) (ms:List Int),H p=none->ms.Perm ns->ms.Pairwise (·<=·)->Q (.ref p) (upd H p (.lst (ms.map V.int)))):=by subst hK; exact xC
def mI (n:Int) (d:List Int):PyData:=.tuple [bA d,.list ((aF n d).map .int)]
theorem kT {d:List Int}:Den K H (mI n d) v↔∃ r dq hq,v=.ref r/\SqT K H r [.ref dq,.ref hq]/\SqT K H dq (d.map V.int)/\SqL K H hq ((aF n d).map V.int):=by
 unfold mI
 rw [cC]
 constructor
 ·rintro ⟨r,xs,rfl,h,hd⟩
  obtain ⟨v1,x1,rfl,h1,h2⟩:=aL.mp hd
  obtain ⟨v2,x2,rfl,h3,h4⟩:=aL.mp h2
  obtain rfl:=aO.mp h4
  obtain ⟨dq,rfl,hdq⟩:=aP.mp h1
  obtain ⟨hq,ys,rfl,hhq,hys⟩:=cX.mp h3
  rw [cD] at hys
  subst hys
  exact ⟨r,dq,hq,rfl,h,hdq,hhq⟩
 ·rintro ⟨r,dq,hq,rfl,h,hdq,hhq⟩
  exact ⟨r,_,rfl,h,aL.mpr ⟨_,_,rfl,aP.mpr ⟨dq,rfl,hdq⟩,aL.mpr ⟨_,_,rfl,cX.mpr ⟨hq,_,rfl,hhq,cD.mpr rfl⟩,aO.mpr rfl⟩⟩⟩
def aEp (K:Rc):Sp:=λvs H Q _=>∃ (x:V) (n:Int) (ws:List (List Int)),vs = [x]/\Den K H (aV n ws) x/\bC (aV n ws)=true/\bW ws<=300/\∀ (p:Addr) (c:List Int) (xs:List V) H',aD H H'->gI n ws (aW ws).length c->H' p=some (.lst xs)->aT K H' (((aW ws).filter λd=>decide ((aF n d).Perm (aF n c))).map (mI n)) xs->Q (.ref p) H'
theorem pQ:FnScope ["book", "rows", "best", "deal", "heaps"] ["book"] (aG uC):=⟨rfl,rfl,rfl,by decide +kernel,rfl,by decide +kernel,by decide +kernel⟩
set_option maxHeartbeats 2000000 in
theorem aFz {fA fN:Addr} {dA dN:FuncData} (G:Fn K mg "_law_b_best" uC ["book"] f fd) (B:Bl mg) (GAd:Fn K mg "_law_b_all_deals" jY ["book"] fA dA) (OAd:FnOk P w K mg base CX0 1 fA dA ["book"] (sO K)) (GH:Fn K mg "_law_b_heaps" vX ["book", "deal"] fH dH) (OH:FnOk P w K mg base CX0 1 fH dH ["book", "deal"] (aBn K)) (GNl:Fn K mg "_law_b_no_less" nU ["ones", "others"] fN dN) (ONl:FnOk P w K mg base CX0 1 fN dN ["ones", "others"] (yX K)):FnOk P w K mg base CX0 4 f fd ["book"] (aEp K):=by
 refine G.fn.ok pQ (λvs H Q E h=>?_) (λcdv A outer s H vs Q E hr h=>?_)
 ·obtain ⟨x,n,ws,rfl,_⟩:=h
  rfl
 ·obtain ⟨x,n,ws,rfl,hx,hbk,hpl,k⟩:=h
  have r3:Room 1 _:=hr.mono (by decide)
  have r1:Room 1 _:=hr.mono (by decide)
  refine ⟨_,(aE (kI (i:=1) (own:=["deal"]) (fr:=[0]) (frn:=["book"]) (bG (aG uC) ["book", "rows", "best", "deal", "heaps"] rfl rfl (by decide +kernel)) rfl pQ.nd rfl rfl rfl (eZ (bF GAd OAd r1 rfl (aA (pv 0) aC)))
    (λ_ _ _ _=>(aK (i:=0) (show (["deal", "book"]:List Str).Nodup by decide +kernel) rfl (Or.inl rfl))) (λ_ _ _ _=>dO)
    (λ_ _ _ _=>(cH (aA (pv 0) (aA (bF GH OH r3 rfl (aA (pv 1) (aA (pv 0) aC))) aC)))))
  (aE (aS (i:=2) pQ.nd rfl (Or.inr rfl) (aZ bY (aZ cG (pv 1) aI (λ_ _=>rfl)) aI (λ_ _=>rfl)))
  (aE (eF PassesOwn.never rfl (eZ (pv 1)) (fM rfl (aU (aK (i:=3) pQ.nd rfl (Or.inl rfl)) (aU (aK (i:=4) pQ.nd rfl (Or.inl rfl)) cP)))
   (aJ (cJ (eO (eC (bF GNl ONl r1 rfl (aA (pv 2) (aA (pv 4) aC)))))
   (aJ (aS (i:=2) pQ.nd rfl (Or.inr rfl) (pv 4)))
   bI)))
  (aJ (aX (cB (own:=["row"]) (fr:=[2]) (frn:=["best"]) (bG (aG uC) ["book", "rows", "best", "deal", "heaps"] rfl rfl (by decide +kernel)) rfl (eZ (pv 1))
    (λ_ _ _ _=>(aK (i:=0) (show (["row", "best"]:List Str).Nodup by decide +kernel) rfl (Or.inl rfl))) (λ_ _ _ _=>mW (bE (aBm (K:=K) rfl hr.u64) (aM (mS (K:=K) rfl) rfl B.sorted jW (aA (aZ (cN (K:=K) rfl) (pv 0) aI (λ_ _=>rfl)) aC)) (aM (mS (K:=K) rfl) rfl B.sorted jW (aA (pv 1) aC)) (bD _)))
    (λ_ _ _ _=>(pv 0)))))))),?_⟩
  obtain ⟨hn1,hn6,hw12,hws⟩:=bB hbk
  have hll:∀ d,(aF n d).length<=6:=λd=>by unfold aF bZ; rw [Qb,Qb,Js]; omega
  have hlb:∀ d∈aW ws,∀ m∈aF n d,0<=m/\m < 1000000:=λd hd m hm=>by
   unfold aF at hm
   obtain ⟨h,_,rfl⟩:=Qw.mp hm
   have a:=(aR (cE _ ws rfl d hd)).1
   have b:=Yu (a:=h) (l:=d)
   omega
  refine ⟨_,rfl,x,n,ws,rfl,hx,hbk,hpl,λap H1 xs s1 e1 d1=>?_⟩
  have hxl:xs.length=(aW ws).length:=by rw [aN d1,Qb]
  have hxm:=iM _ ws rfl
  refine ⟨ap,rfl,⟨_,SqL.of e1⟩,jU (K:=K) (a:=ap) (xs:=xs) (λσ=>∃ v,σ = [v,some x]) (λi zs H2=>aD H1 H2/\aT K H2 (((aW ws).take i).map (mI n)) zs) (cZ (by omega)) ⟨none,rfl⟩ ⟨aD.refl _,aO.mpr rfl⟩ (λi zs _ h=>by rw [aN h.2,Qb]; exact Zu ..) (λ_ _ _ h=>h.1.seqL (SqL.of e1)) ?_ ?_⟩
  ·rintro i zs σ dv H2 hdv ⟨v,rfl⟩ ⟨s2,d2⟩ hz
   obtain ⟨dd,hdd,dend⟩:=bU (s2.denAll _ _ d1) hdv
   rw [Qe] at hdd
   obtain ⟨d,ed,rfl⟩:∃ d,(aW ws)[i]?=some d/\bA d=dd:=by
    cases q:(aW ws)[i]? with
    | none=>rw [q] at hdd; cases hdd
    | some d=>rw [q] at hdd; exact ⟨d,rfl,Option.some.inj hdd⟩
   refine cI ?_
   refine ⟨_,rfl,_,rfl,_,rfl,x,dv,n,ws,d,rfl,⟨(s1.trans s2).den _ _ hx,hbk,dend,cE _ ws rfl d (Qi ed)⟩,λhp H3 s3 _ e3=>⟨sz2 _ _,λr hr'=>?_⟩⟩
   have s4:=aD.new (o:=.tup [dv,.ref hp]) hr'
   obtain ⟨dq,rfl,hdq⟩:=aP.mp dend
   refine ⟨hz,⟨_,rfl⟩,s2.trans (s3.trans s4),?_⟩
   rw [Jd,ed,Qp]
   exact bO ((s3.trans s4).denAll _ _ d2) (aL.mpr ⟨_,[],rfl,kT.mpr ⟨r,dq,hp,rfl,SqT.of aB,(s3.trans s4).seqT hdq,SqL.of (s4 _ _ e3)⟩,aO.mpr rfl⟩)
  ·rintro zs H2 ⟨s2,d2⟩ rp hrp
   rw [hxl,Jf] at d2
   have s3:=aD.new (o:=.lst zs) hrp
   have e3:SqL K (upd H2 rp (.lst zs)) rp zs:=SqL.of aB
   have d3:=s3.denAll _ _ d2
   have s13:=s1.trans (s2.trans s3)
   generalize upd H2 rp (.lst zs)=H3 at s3 e3 d3 s13 ⊢
   have hzl:zs.length=(aW ws).length:=by rw [aN d3,Qb]
   have hp1:=lT λl hl=>Xl.mpr (bL (hws l hl)).1
   have rowAt:∀ (i:Nat) (z:V) (H4:Hp),aD H3 H4->zs[i]?=some z->∃ d r dq hq,(aW ws)[i]?=some d/\z=.ref r/\SqT K H4 r [.ref dq,.ref hq]/\SqT K H4 dq (d.map V.int)/\SqL K H4 hq ((aF n d).map V.int)/\Den K H4 (mI n d) z:=λi z H4 s4 hz=>by
    obtain ⟨dd,hdd,dend⟩:=bU (s4.denAll _ _ d3) hz
    rw [Qe] at hdd
    cases q:(aW ws)[i]? with
    | none=>rw [q] at hdd; cases hdd
    | some d =>
     rw [q] at hdd
     obtain rfl:mI n d=dd:=Option.some.inj hdd
     obtain ⟨r,dq,hq,h1,h2,h3,h4⟩:=kT.mp dend
     exact ⟨d,r,dq,hq,rfl,h1,h2,h3,h4,dend⟩
   obtain ⟨z0,hz0⟩:∃ z,zs[0]?=some z:=⟨_,Qc (show 0 < zs.length by omega)⟩
   obtain ⟨d0,r0,dq0,hq0,ed0,rfl,hr0,_,hh0,_⟩:=rowAt 0 z0 H3 (aD.refl _) hz0
   dsimp only [fV]
   refine ⟨_,rfl,rp,_,0,.ref r0,rfl,rfl,e3,?_,r0,_,1,.ref hq0,rfl,rfl,hr0,rfl,?_⟩
   ·exact cF (j:=0) hz0
   dsimp only [fV]
   refine ⟨_,rfl,rp,rfl,⟨_,e3⟩,jO (K:=K) (a:=rp) (xs:=zs) (λi σ H4=>∃ (c:List Int) (bq:Addr) (v3 v4:Option V),σ = [some x,some (.ref rp),some (.ref bq),v3,v4]/\aD H3 H4/\SqL K H4 bq ((aF n c).map V.int)/\gI n ws i c)
    ⟨d0,hq0,_,_,rfl,aD.refl _,hh0,cE _ ws rfl d0 (Qi ed0),λd lv hd=>by simp at hd⟩ (λi σ H4 _ ⟨_,_,_,_,_,s4,_⟩=>s4.seqL e3) ?_ ?_⟩
   ·rintro i z σ H4 hz ⟨c,bq,v3,v4,rfl,s4,hbq,hB⟩
    obtain ⟨d,r,dq,hq,ed,rfl,hrr,_,hhq,_⟩:=rowAt i z H4 s4 hz
    refine ⟨r,_,rfl,hrr,rfl,_,_,rfl,_,_,rfl,rfl,?_⟩
    dsimp only [fV]
    refine ⟨_,rfl,_,rfl,bq,hq,_,_,rfl,hbq,hhq,by have:=hll c; omega,by have:=hll d; omega,hlb c (hX _ ws rfl c hB.1),hlb d (Qi ed),λH5 ms ys s5 pm sm py sy=>?_⟩
    refine ⟨_,rfl,?_⟩
    cases hnl:eM ms ys with
    | true=>exact gX ⟨c,bq,_,_,rfl,s4.trans s5,s5.seqL hbq,hB.stay hbk ed pm py sm sy hnl⟩
    | false=>exact fZ ⟨_,rfl,d,hq,_,_,rfl,s4.trans s5,s5.seqL hhq,hB.turn hbk ed pm py sy hnl⟩
   ·rintro σ H4 ⟨c,bq,v3,v4,rfl,s4,hbq,hB⟩
    rw [hzl] at hB
    dsimp only
    refine ⟨_,rfl,rp,rfl,⟨_,s4.seqL e3⟩,jU (K:=K) (a:=rp) (xs:=zs) (λσ=>∃ v,σ = [v,some (.ref bq)]) (λi ys H5=>aD H4 H5/\aT K H5 ((((aW ws).take i).filter λd=>decide ((aF n d).Perm (aF n c))).map (mI n)) ys) (cZ (by omega)) ⟨none,rfl⟩ ⟨aD.refl _,aO.mpr rfl⟩ (λi zs _ h=>by rw [aN h.2,Qb]; exact Je (Xo ..) (Zu ..)) (λ_ _ _ h=>(s4.trans h.1).seqL e3) ?_ ?_⟩
    ·rintro i ys σ z H5 hz ⟨v,rfl⟩ ⟨s5,d5⟩ hsz
     obtain ⟨d,r,dq,hq,ed,rfl,hrr,_,hhq,drow⟩:=rowAt i z H5 (s4.trans s5) hz
     dsimp only [fV]
     refine ⟨_,rfl,r,_,1,.ref hq,rfl,rfl,hrr,rfl,hq,aF n d,rfl,.inl hhq,by have:=hll d; omega,λp1 ms hp1 pm sm=>?_⟩
     have s6:=aD.new (o:=.lst (ms.map V.int)) hp1
     have e6:SqL K (upd H5 p1 (.lst (ms.map V.int))) p1 (ms.map V.int):=SqL.of aB
     generalize upd H5 p1 (.lst (ms.map V.int))=H6 at s6 e6 ⊢
     refine ⟨_,rfl,bq,aF n c,rfl,.inl ((s5.trans s6).seqL hbq),by have:=hll c; omega,λp2 ms2 hp2 pm2 sm2=>?_⟩
     have s7:=aD.new (o:=.lst (ms2.map V.int)) hp2
     refine ⟨.list (ms.map .int),.list (ms2.map .int),cX.mpr ⟨p1,_,rfl,s7.seqL e6,cD.mpr rfl⟩,cX.mpr ⟨p2,_,rfl,SqL.of aB,cD.mpr rfl⟩,eE _,eE _,eS _,eS _,?_⟩
     rw [pF]
     have ei:ms=ms2↔(aF n d).Perm (aF n c):=⟨λe=>pm.symm.trans (e ▸ pm2),λp=>List.Perm.eq_of_pairwise (le:=(·<=·)) (λx y _ _ h1 h2=>by omega) sm sm2 (pm.trans (p.trans pm2.symm))⟩
     have s57:=s6.trans s7
     refine ⟨_,rfl,?_⟩
     by_cases c1:ms=ms2
     ·rw [decide_eq_true c1]
      refine fZ ⟨_,rfl,hsz,⟨_,rfl⟩,s5.trans s57,?_⟩
      rw [Jd,ed,Xj,Qp]
      refine bO (s57.denAll _ _ d5) ?_
      show aT K _ (([d].filter _).map (mI n)) _
      rw [Xg,if_pos (decide_eq_true (ei.mp c1))]
      exact aL.mpr ⟨_,[],rfl,s57.den _ _ drow,aO.mpr rfl⟩
     ·rw [decide_eq_false c1]
      refine gX ⟨⟨_,rfl⟩,s5.trans s57,?_⟩
      rw [Jd,ed,Xj]
      show aT K _ ((_++[d].filter _).map (mI n)) _
      rw [Xg,if_neg (λz=>c1 (ei.mpr (of_decide_eq_true z))),List.filter_nil,Zk]
      exact s57.denAll _ _ d5
    ·rintro ys H5 ⟨s5,d5⟩ p hp
     rw [hzl,Jf] at d5
     exact k p c ys _ (s13.trans (s4.trans (s5.trans (aD.new hp)))) hB aB ((aD.new hp).denAll _ _ d5)
theorem aBH (hK:X.K=K):IxR X (rIx K):=by subst hK; exact aGi
theorem pR (v:V):(!decide (v=v))=false:=by simp
theorem aEq:FnScope ["found", "due"] ["found", "due"] (aG rQ):=⟨rfl,rfl,rfl,by decide +kernel,rfl,by decide +kernel,by decide +kernel⟩
def SmD:Nat->PyData->Prop
 | 0,d=>∃ i,d=.int i
 | k+1,d=>∃ (ds:List PyData) (l:Bool),d=(if l then .list ds else .tuple ds)/\ds.length<=1000/\∀ e∈ds,SmD k e
def aCG (K:Rc) (k:Nat):Sp:=λvs H Q _=>∃ (d:PyData) (x y:V),vs = [x,y]/\SmD k d/\Den K H d x/\Den K H d y/\∀ H',aD H H'->Q (.bl true) H'
theorem aEr (G:Fn K mg "_law_b_same" rQ ["found", "due"] f fd) (B:Bl mg):FnOk P w K mg base CX0 1 f fd ["found", "due"] (aCG K 0):=by
 refine G.fn.ok aEq (λvs H Q E h=>?_) (λcdv A outer s H vs Q E hr h=>?_)
 ·obtain ⟨d,x,y,rfl,_⟩:=h
  rfl
 ·obtain ⟨d,x,y,rfl,⟨i,rfl⟩,hx,hy,k⟩:=h
  obtain rfl:=cK.mp hx
  obtain rfl:=cK.mp hy
  refine ⟨_,aE (cJ (eC (aM iH rfl B.isinstance hJ (aA (pv 1) (aA (dQ (v:=.ty "int") rfl B.int aBb rfl) aC))))
   (aJ (aX (kF (aM iH rfl B.isinstance hJ (aA (pv 0) (aA (dQ (v:=.ty "int") rfl B.int aBb rfl) aC)))
    (kF (fI gC (aM jH rfl B.isinstance hJ (aA (pv 0) (aA (dQ (v:=.ty "bool") rfl B.bool aAi rfl) aC))) (aM jH rfl B.isinstance hJ (aA (pv 1) (aA (dQ (v:=.ty "bool") rfl B.bool aAi rfl) aC))) (bD _))
    (mT (fI gC (pv 0) (pv 1) (bD _))))))) bI) iN,?_⟩
  refine ⟨_,rfl,.int i,.int,rfl,(cK (K:=K) (H:=H) (i:=i)|>.mpr rfl).kd,_,rfl,?_⟩
  refine fZ ?_
  refine ⟨_,rfl,.int i,.int,rfl,(cK (K:=K) (H:=H) (i:=i)|>.mpr rfl).kd,_,rfl,?_⟩
  refine fZ ?_
  refine ⟨_,rfl,.int i,.int,rfl,(cK (K:=K) (H:=H) (i:=i)|>.mpr rfl).kd,_,rfl,.int i,.int,rfl,(cK (K:=K) (H:=H) (i:=i)|>.mpr rfl).kd,rfl,_,rfl,?_⟩
  refine fZ ?_
  refine ⟨_,rfl,_,rfl,rfl,?_⟩
  have e:decide (V.int i=V.int i)=true:=by simp
  rw [e]
  exact k _ (aD.refl _)
theorem aBI {l:Bool} (h:Den K H (if l then PyData.list ds else .tuple ds) x):∃ a xs,x=.ref a/\(SqL K H a xs∨SqT K H a xs)/\aT K H ds xs:=by
 cases l with
 | true=>obtain ⟨a,xs,h1,h2,h3⟩:=cX.mp h; exact ⟨a,xs,h1,.inl h2,h3⟩
 | false=>obtain ⟨a,xs,h1,h2,h3⟩:=cC.mp h; exact ⟨a,xs,h1,.inr h2,h3⟩
theorem aEs {i:Nat} {Q:VK} (h:SqL K H a xs∨SqT K H a xs) (s:aD H H') (hn:xs[i]?=some v) (q:Q v H'):rIx K (.ref a) (.int (i:Int)) H' Q:=by
 rcases h with h | h
 ·exact .inl ⟨a,_,_,_,rfl,rfl,s.seqL h,cF hn,q⟩
 ·exact .inr (.inl ⟨a,_,_,_,rfl,rfl,s.seqT h,cF hn,q⟩)
theorem aEt {k:Nat} (G:Fn K mg "_law_b_same" rQ ["found", "due"] f fd) (B:Bl mg) (O0:FnOk P w K mg base CX0 (k+1) f fd ["found", "due"] (aCG K k)):FnOk P w K mg base CX0 (k+2) f fd ["found", "due"] (aCG K (k+1)):=by
 refine G.fn.ok aEq (λvs H Q E h=>?_) (λcdv A outer s H vs Q E hr h=>?_)
 ·obtain ⟨d,x,y,rfl,_⟩:=h
  rfl
 ·obtain ⟨d,x,y,rfl,⟨ds,l,hd,hlen,hds⟩,hx,hy,k⟩:=h
  refine ⟨_,aE (cJ (eC (aM iH rfl B.isinstance hJ (aA (pv 1) (aA (dQ (v:=.ty "int") rfl B.int aBb rfl) aC)))) iN bI)
   (aE (cJ (PW.pt (jB (bE pT (aM cW rfl B.isinstance hJ (aA (pv 1) (aA (dQ (v:=.ty "tuple") rfl B.tuple cM rfl) aC))) (aM cW rfl B.isinstance hJ (aA (pv 0) (aA (dQ (v:=.ty "tuple") rfl B.tuple cM rfl) aC))) (bD _))
    (gL (bE pT (aM jI rfl B.isinstance hJ (aA (pv 1) (aA (dQ (v:=.ty "list") rfl B.list vS rfl) aC))) (aM jI rfl B.isinstance hJ (aA (pv 0) (aA (dQ (v:=.ty "list") rfl B.list vS rfl) aC))) (bD _))))) iN bI)
   (aJ (aX (kF (fI gC (aM aY rfl B.len eV (aA (pv 0) aC)) (aM aY rfl B.len eV (aA (pv 1) aC)) (bD _))
    (mT (aM (gY rfl) rfl B.all pY (aA
     (cB (own:=["k"]) (fr:=[1,0]) (frn:=["due", "found"]) (bG (aG rQ) ["found", "due"] rfl rfl (by decide +kernel)) rfl (dP rfl B.range (aA (aM aY rfl B.len eV (aA (pv 1) aC)) aC))
      (λ_ _ _ _=>aK (i:=0) (show (["k", "due", "found"]:List Str).Nodup by decide +kernel) rfl (Or.inl rfl)) (λ_ _ _ _=>dO)
      (λ_ _ _ _=>bF G O0 hr rfl (aA (aZ (aBH (K:=K) rfl) (pv 2) (pv 0) (λ_ _=>rfl)) (aA (aZ (aBH (K:=K) rfl) (pv 1) (pv 0) (λ_ _=>rfl)) aC)))) aC))))))),?_⟩
  refine ⟨_,rfl,y,iB d,rfl,hy.kd,_,rfl,?_⟩
  have e1:decide (iB d=Kd.int∨iB d=Kd.bl)=false:=by rw [hd]; cases l <;> rfl
  rw [e1]
  refine gX ?_
  refine ⟨_,rfl,y,iB d,rfl,hy.kd,_,rfl,x,iB d,rfl,hx.kd,rfl,_,rfl,?_⟩
  rw [pR]
  refine gX ?_
  refine ⟨_,rfl,y,iB d,rfl,hy.kd,_,rfl,x,iB d,rfl,hx.kd,rfl,_,rfl,?_⟩
  rw [pR]
  refine gX ?_
  rw [hd] at hx hy
  obtain ⟨ax,xs,rfl,hax,dx⟩:=aBI hx
  obtain ⟨ay,ys,rfl,hay,dy⟩:=aBI hy
  have lx:=aN dx
  have ly:=aN dy
  refine ⟨_,rfl,ax,_,rfl,hax,_,rfl,ay,_,rfl,hay,rfl,_,rfl,?_⟩
  have e2:decide (V.int (xs.length:Int)=V.int (ys.length:Int))=true:=by rw [lx,ly]; simp
  rw [e2]
  refine fZ ?_
  refine ⟨_,rfl,ay,_,rfl,hay,_,rfl,by omega,by omega,dZ (lo:=0) (n:=(ys.length:Int).toNat) (λσ=>∃ v,σ = [v,some (.ref ay),some (.ref ax)]) (λi zs H2=>aD H H2/\zs=(List.replicate i true).map V.bl) (cZ (by omega)) ⟨none,rfl⟩ ⟨aD.refl _,rfl⟩ ?_ ?_ ?_⟩
  ·rintro i zs H2 ⟨_,rfl⟩
   rw [Qb,Xn]; exact Qh _
  ·rintro i zs σ H2 hi ⟨v,rfl⟩ ⟨s2,rfl⟩ hz
   have hi':i < ds.length:=by omega
   have e0:(0:Int)+(i:Int)=(i:Int):=by omega
   rw [e0]
   obtain ⟨e1',h1,g1⟩:=bU (s2.denAll _ _ dx) (Qc (show i < xs.length by omega))
   obtain ⟨e2',h2,g2⟩:=bU (s2.denAll _ _ dy) (Qc (show i < ys.length by omega))
   obtain rfl:e1'=e2':=Option.some.inj (h1.symm.trans h2)
   refine cI ?_
   refine ⟨_,rfl,_,rfl,aEs hax s2 (Qc (by omega)) ⟨_,rfl,_,rfl,aEs hay s2 (Qc (by omega)) ⟨e1',_,_,rfl,hds _ (Qi h1),g1,g2,λH3 s3=>⟨hz,⟨_,rfl⟩,s2.trans s3,?_⟩⟩⟩⟩
   rw [Qaa,Qp]
   rfl
  ·rintro zs H2 ⟨s2,rfl⟩ p hp
   refine ⟨p,_,rfl,SqL.of aB,?_⟩
   have e3:∀ n,(List.replicate n true).all id=true:=λn=>by
    rw [Jt]
    intro b hb
    exact Wk hb
   rw [e3]
   exact k _ (s2.trans (aD.new hp))
theorem aEu (G:Fn K mg "_law_b_same" rQ ["found", "due"] f fd) (B:Bl mg):∀ k,FnOk P w K mg base CX0 (k+1) f fd ["found", "due"] (aCG K k)
 | 0=>aEr G B
 | k+1=>aEt G B (aEu G B k)
theorem zK {c d:List Int} (hb:bC (aV n ws)=true) (h:gI n ws (aW ws).length c) (hd:bJ ws (bA d)=true) (L:Lvl n ws d lv) {e:List Int}:(e∈(aW ws).filter λd=>decide ((aF n d).Perm (aF n c)))↔bJ ws (bA e)=true/\Lvl n ws e lv:=by
 rw [Jz,decide_eq_true_iff]
 refine ⟨λ⟨a,b⟩=>⟨cE _ ws rfl e a,(sP hb h hd L a).mp b⟩,λ⟨a,b⟩=>?_⟩
 have z:=hX _ ws rfl e a
 exact ⟨z,(sP hb h hd L z).mpr b⟩
theorem pS:∀ {qs rs:List Addr} {p:Nat->Int->Prop},qs.length=rs.length->(∀ j x,p j x->0<=x/\x < 1000)->(∀ (j:Nat) q,qs[j]?=some q->∃ r,H q=some (.tup (r.map V.int))/\Ris r (p j))->(∀ (j:Nat) q,rs[j]?=some q->∃ r,H q=some (.tup (r.map V.int))/\Ris r (p j))->∃ rr:List (List Int),rr.length=qs.length/\(∀ r∈rr,r.length<=1000)/\aT K H (rr.map bM) (qs.map V.ref)/\aT K H (rr.map bM) (rs.map V.ref)
 | [],[],_,_,_,_,_=>⟨[],rfl,λ_ h=>(by cases h),aO.mpr rfl,aO.mpr rfl⟩
 | [],_::_,_,hl,_,_,_=>by simp at hl
 | _::_,[],_,hl,_,_,_=>by simp at hl
 | q::qs,r::rs,p,hl,hp,h1,h2=>by
  obtain ⟨rr,a,z,b,c⟩:=pS (qs:=qs) (rs:=rs) (p:=λj=>p (j+1)) (by simpa using hl) (λj=>hp (j+1)) (λj x h=>h1 (j+1) x (by simpa using h)) (λj x h=>h2 (j+1) x (by simpa using h))
  obtain ⟨u,hu,ru⟩:=h1 0 q rfl
  obtain ⟨v,hv,rv⟩:=h2 0 r rfl
  obtain rfl:=ru.uniq rv
  have:=eG (n:=1000) (by decide) (λx hx=>hp 0 x ((ru.2 x).mp hx)) ru.1
  exact ⟨u::rr,by rw [Ja,a]; rfl,λr h=>by rcases Qn.mp h with rfl | h; omega; exact z r h,aL.mpr ⟨_,_,rfl,aP.mpr ⟨q,rfl,SqT.of hu⟩,b⟩,aL.mpr ⟨_,_,rfl,aP.mpr ⟨r,rfl,SqT.of hv⟩,c⟩⟩
theorem aHA {rr:List (List Int)} (h:rr.length<=1000) (h2:∀ r∈rr,r.length<=1000):SmD 2 (.list (rr.map bM)):=by
 refine ⟨_,true,rfl,by rw [Qb]; exact h,λe he=>?_⟩
 obtain ⟨r,hr,rfl⟩:=Qw.mp he
 exact ⟨r.map .int,false,rfl,by rw [Qb]; exact h2 r hr,λe he=>by
  obtain ⟨i,_,rfl⟩:=Qw.mp he
  exact ⟨i,rfl⟩⟩
def aGN:Scope:=match (eK iC).getD 0 (.Pass ⟨0,0,0,0⟩) with
 | .Assign _ (.ListComp _ _ sc _) _=>sc
 | _=>aG iC
def aGO:Scope:=match (eK iC).getD 1 (.Pass ⟨0,0,0,0⟩) with
 | .Assign _ (.ListComp _ _ sc _) _=>sc
 | _=>aG iC
def aBJ (K:Rc) (Pt:Addr):Sp:=λvs H Q _=>∃ (x:V) (p:Addr) (n:Int) (ws:List (List Int)) (c:List Int) (xs:List V),vs = [x,.ref p]/\Den K H (aV n ws) x/\bC (aV n ws)=true/\bW ws<=300/\H Pt=some (.tab oC)/\gI n ws (aW ws).length c/\SqL K H p xs/\aT K H (((aW ws).filter λd=>decide ((aF n d).Perm (aF n c))).map (mI n)) xs/\∀ H',aD H H'->Q (.bl true) H'
theorem oO:FnScope ["book", "some", "go", "have", "found", "due"] ["book", "some"] (aG iC):=⟨rfl,rfl,rfl,by decide +kernel,rfl,by decide +kernel,by decide +kernel⟩
set_option maxHeartbeats 2000000 in
theorem aEv {fMg fMh fHm fSa:Addr} {dMg dMh dHm dSa:FuncData} (G:Fn K mg "_law_b_right" iC ["book", "some"] f fd) (B:Bl mg) (GMg:Fn K mg "may_go" rP ["book"] fMg dMg) (OMg:FnOk P w K mg base CX0 12 fMg dMg ["book"] (aBE K Pt)) (GMh:Fn K mg "may_have" hV ["book"] fMh dMh) (OMh:FnOk P w K mg base CX0 13 fMh dMh ["book"] (uQ K Pt)) (GHm:Fn K mg "how_many" nT ["book"] fHm dHm) (OHm:FnOk P w K mg base CX0 13 fHm dHm ["book"] (uP K Pt)) (GSa:Fn K mg "_law_b_same" rQ ["found", "due"] fSa dSa):FnOk P w K mg base CX0 14 f fd ["book", "some"] (aBJ K Pt):=by
 have OS2:FnOk P w K mg base CX0 3 fSa dSa ["found", "due"] (aCG K 2):=aEu GSa B 2
 have OS0:FnOk P w K mg base CX0 1 fSa dSa ["found", "due"] (aCG K 0):=aEu GSa B 0
 refine G.fn.ok oO (λvs H Q E h=>?_) (λcdv A outer s H vs Q E hr h=>?_)
 ·obtain ⟨x,p,n,ws,c,xs,rfl,_⟩:=h
  rfl
 ·obtain ⟨x,p,n,ws,c,xs,rfl,hx,hbk,hpl,hP,hB,hp,hd,k⟩:=h
  have r13:Room 13 _:=hr
  have r12:Room 12 _:=hr.mono (by decide)
  have r3:Room 3 _:=hr.mono (by decide)
  have r1:Room 1 _:=hr.mono (by decide)
  refine ⟨_,(aE (kI (i:=2) (z:=some "work") (own:=["work"]) (fr:=[1]) (frn:=["some"]) (mX (aG iC) ["book", "some", "go", "have", "found", "due"] rfl rfl (λ_ _=>rfl) (λ_=>rfl) (by decide +kernel)) rfl oO.nd rfl rfl rfl (dP rfl B.range (aA (aM aY rfl B.len eV (aA (aZ (cN (K:=K) rfl) (pv 0) aI (λ_ _=>rfl)) aC)) aC))
    (λ_ _ _ _=>aK (i:=0) (show (["work", "some"]:List Str).Nodup by decide +kernel) rfl (Or.inr rfl)) (λ_ _ _ _=>dO)
    (λ_ _ _ _=>bR (aAc (K:=K) rfl) rfl B.tuple cM (aA (aM (jN (w:=w) rfl rfl) rfl B.sorted jW (aA (bR (mY (w:=w) (K:=K) rfl rfl rfl) rfl B.set aBc (aA (cB (own:=["deal", "heaps"]) (fr:=[0]) (frn:=["work"]) (bG (aEL aGN (aG iC)) ["work", "some"] rfl rfl (by decide +kernel)) rfl (xL (K:=K) rfl (pv 1))
     (λ_ _ _ _=>nX (K:=K) (n:=2) rfl rfl (aU (aK (i:=0) (show (["deal", "heaps", "work"]:List Str).Nodup by decide +kernel) rfl (Or.inl rfl)) (aU (aK (i:=1) (show (["deal", "heaps", "work"]:List Str).Nodup by decide +kernel) rfl (Or.inl rfl)) cP))) (λ_ _ _ _=>dO) (λ_ _ _ _=>(aZ (cN (K:=K) rfl) (pv 0) (pv 2) (λ_ _=>rfl)))) aC)) aC)) aC)))
  (aE (kI (i:=3) (z:=some "hand") (own:=["hand"]) (fr:=[1]) (frn:=["some"]) (mX (aG iC) ["book", "some", "go", "have", "found", "due"] rfl rfl (λ_ _=>rfl) (λ_=>rfl) (by decide +kernel)) rfl oO.nd rfl rfl rfl (dP rfl B.range (aA (aZ (cN (K:=K) rfl) (pv 0) aI (λ_ _=>rfl)) aC))
    (λ_ _ _ _=>aK (i:=0) (show (["hand", "some"]:List Str).Nodup by decide +kernel) rfl (Or.inr rfl)) (λ_ _ _ _=>dO)
    (λ_ _ _ _=>bR (aAc (K:=K) rfl) rfl B.tuple cM (aA (aM (jN (w:=w) rfl rfl) rfl B.sorted jW (aA (bR (mY (w:=w) (K:=K) rfl rfl rfl) rfl B.set aBc (aA (cB (own:=["deal", "heaps"]) (fr:=[0]) (frn:=["hand"]) (bG (aEL aGO (aG iC)) ["hand", "some"] rfl rfl (by decide +kernel)) rfl (xL (K:=K) rfl (pv 1))
     (λ_ _ _ _=>nX (K:=K) (n:=2) rfl rfl (aU (aK (i:=0) (show (["deal", "heaps", "hand"]:List Str).Nodup by decide +kernel) rfl (Or.inl rfl)) (aU (aK (i:=1) (show (["deal", "heaps", "hand"]:List Str).Nodup by decide +kernel) rfl (Or.inl rfl)) cP))) (λ_ _ _ _=>dO) (λ_ _ _ _=>(aZ (aDh (K:=K) rfl) (pv 1) (pv 2) (λ_ _=>rfl)))) aC)) aC)) aC)))
  (aE (eF PassesOwn.never rfl (eZ (eP (aA (cH (aA (bF GMg OMg r12 rfl (aA (pv 0) aC)) (aA (pv 2) aC))) (aA (cH (aA (bF GMh OMh r13 rfl (aA (pv 0) aC)) (aA (pv 3) aC))) aC)))) (fM rfl (aU (aK (i:=4) oO.nd rfl (Or.inl rfl)) (aU (aK (i:=5) oO.nd rfl (Or.inl rfl)) cP)))
   (aJ (cJ (eO (eC (bF GSa OS2 r3 rfl (aA (pv 4) (aA (pv 5) aC)))))
   (aJ (aX iE))
   bI)))
  (aJ (aX (bF GSa OS0 r1 rfl (aA (bF GHm OHm r13 rfl (aA (pv 0) aC)) (aA (aM aY rfl B.len eV (aA (pv 1) aC)) aC)))))))),?_⟩
  obtain ⟨hn1,hn6,hw12,hws⟩:=bB hbk
  obtain ⟨ba,bb,ys,rfl,ha,hb2,hys⟩:=cY hx
  have hlw:=aN hys
  rw [Qb] at hlw
  generalize hkd:((aW ws).filter λd=>decide ((aF n d).Perm (aF n c)))=kd at hd
  have hxl:xs.length=kd.length:=by rw [aN hd,Qb]
  have hkl:kd.length<=300:=by rw [<- hkd]; exact Je (Xo ..) (by rw [iM _ ws rfl]; exact hpl)
  have hkm:∀ d∈kd,bJ ws (bA d)=true/\(aF n d).Perm (aF n c):=λd h=>by
   rw [<- hkd] at h
   exact ⟨cE _ ws rfl d (Jz.mp h).1,of_decide_eq_true (Jz.mp h).2⟩
  have rowAt:∀ (i:Nat) (z:V) (H4:Hp),aD H H4->xs[i]?=some z->∃ d r dq hq,kd[i]?=some d/\z=.ref r/\SqT K H4 r [.ref dq,.ref hq]/\SqT K H4 dq (d.map V.int)/\SqL K H4 hq ((aF n d).map V.int):=λi z H4 s4 hz=>by
   obtain ⟨dd,hdd,dend⟩:=bU (s4.denAll _ _ hd) hz
   rw [Qe] at hdd
   cases q:kd[i]? with
   | none=>rw [q] at hdd; cases hdd
   | some d =>
    rw [q] at hdd
    obtain rfl:mI n d=dd:=Option.some.inj hdd
    obtain ⟨r,dq,hq,h1,h2,h3,h4⟩:=kT.mp dend
    exact ⟨d,r,dq,hq,rfl,h1,h2,h3,h4⟩
  refine ⟨_,rfl,ba,_,1,.ref bb,rfl,rfl,ha,rfl,bb,_,rfl,.inr hb2,_,rfl,by omega,by omega,dZ (lo:=0) (n:=(ys.length:Int).toNat) (λσ=>∃ v,σ = [v,some (.ref p)]) (λi zs H2=>aD H H2/\∃ qs:List Addr,zs=qs.map V.ref/\qs.length=i/\∀ (j:Nat) q,qs[j]?=some q->∃ r,H2 q=some (.tup (r.map V.int))/\Ris r (λx=>∃ d∈kd,d[j]?=some x)) (cZ (by omega)) ⟨none,rfl⟩ ⟨aD.refl _,[],rfl,rfl,λj q h=>by simp at h⟩ (λi zs _ h=>by obtain ⟨_,qs,rfl,h,_⟩:=h; rw [Qb]; omega) ?_ ?_⟩
  ·rintro j zs σ H2 hj ⟨v,rfl⟩ ⟨s2,qs,rfl,hz2,hqs⟩ hz
   rw [Zd]
   have hjw:j < ws.length:=by omega
   refine cI ?_
   refine ⟨_,rfl,p,rfl,⟨_,s2.seqL hp⟩,jU (K:=K) (a:=p) (xs:=xs) (λσ=>∃ v1 v2,σ = [v1,v2,some (.int (j:Int))]) (λi zs H3=>aD H2 H3/\zs=((kd.take i).map λd=>d.getD j 0).map V.int) (cZ (by omega)) ⟨none,none,rfl⟩ ⟨aD.refl _,rfl⟩ (λi zs _ h=>by rw [h.2,Qb,Qb]; exact Zu ..) (λ_ _ _ h=>(s2.trans h.1).seqL hp) ?_ ?_⟩
   ·rintro i zs σ z H3 hz3 ⟨v1,v2,rfl⟩ ⟨s3,rfl⟩ hsz
    obtain ⟨d,r,dq,hq,ed,rfl,hr1,hd1,_⟩:=rowAt i z H3 (s2.trans s3) hz3
    have hdl:=(aR (hkm d (Qi ed)).1).1
    have ex:d[j]?=some (d.getD j 0):=by rw [Qu,Qc (by omega)]; rfl
    refine ⟨r,_,rfl,hr1,rfl,_,_,rfl,_,_,rfl,rfl,?_⟩
    dsimp only [sS]
    rw [if_pos rfl]
    refine ⟨_,rfl,_,rfl,dq,_,(j:Int),.int (d.getD j 0),rfl,rfl,hd1,cF (by rw [Qe,ex]; rfl),hsz,⟨_,_,rfl⟩,s3,?_⟩
    rw [Jd,ed,Qp,Qp]
    rfl
   ·rintro zs H3 ⟨s3,rfl⟩ q1 hq1
    rw [hxl,Jf] at *
    have hl6:(ws[j]'hjw).length<=6:=by have w:=bL (hws _ (Xb hjw)); have:=eG (by omega) w.2.1 w.2.2; omega
    refine ⟨q1,_,ws[j]'hjw,rfl,SqL.of aB,by omega,λx hx'=>?_,λsp us hsp nd hu hl=>⟨sp,us,rfl,aB,by omega,λq2 out hso hq2=>⟨q2,_,rfl,.inl ⟨SqL.of aB,λl hl'=>?_⟩⟩⟩⟩
    ·obtain ⟨d,hd',rfl⟩:=Qw.mp hx'
     have dp:=aR (hkm d hd').1
     exact dp.2 j _ _ (by rw [Qu,Qc (show j < d.length by omega)]; rfl) (Qc hjw)
    ·have s5:=s3.trans ((aD.new hq1).trans ((aD.new hsp).trans ((aD.new hq2).trans (aD.new (o:=.tup (out.map V.int)) hl'))))
     refine ⟨hz,⟨_,rfl⟩,s2.trans s5,qs++[l],by rw [Qp]; rfl,by rw [Qq,hz2]; rfl,λjj q' hq'=>?_⟩
     by_cases hjj:jj < qs.length
     ·rw [Qt hjj] at hq'
      obtain ⟨r,hr1,hr2⟩:=hqs jj q' hq'
      exact ⟨r,s5 _ _ hr1,hr2⟩
     ·rw [Ji (by omega)] at hq'
      have e0:jj - qs.length=0:=by have:=(Qd.mp hq').1; simp at this; omega
      rw [e0] at hq'
      cases hq'
      have ej:jj=j:=by omega
      subst ej
      refine ⟨out,aB,hso.1,λx=>?_⟩
      rw [hso.2,hu,Qw]
      refine ⟨λ⟨d,h1,h2⟩=>⟨d,h1,?_⟩,λ⟨d,h1,h2⟩=>⟨d,h1,?_⟩⟩
      ·have:=(aR (hkm d h1).1).1
       rw [<- h2,Qu,Qc (show jj < d.length by omega)]; rfl
      ·rw [Qu,h2]; rfl
  ·rintro zs H2 ⟨s2,qs,rfl,hl,hqs⟩ gp hgp
   have s3:=s2.trans (aD.new (o:=.lst (qs.map V.ref)) hgp)
   have e3:upd H2 gp (.lst (qs.map V.ref)) gp=some (.lst (qs.map V.ref)):=aB
   have hq3:∀ (j:Nat) q,qs[j]?=some q->∃ r,upd H2 gp (.lst (qs.map V.ref)) q=some (.tup (r.map V.int))/\Ris r (λx=>∃ d∈kd,d[j]?=some x):=λj q h=>by
    obtain ⟨r,h1,h2⟩:=hqs j q h
    exact ⟨r,aD.new hgp _ _ h1,h2⟩
   generalize upd H2 gp (.lst (qs.map V.ref))=H3 at s3 e3 hq3 ⊢
   dsimp only [fV]
   refine ⟨_,rfl,ba,_,0,.int n,rfl,rfl,s3.seqT ha,rfl,n,rfl,by omega,by omega,dZ (lo:=0) (n:=n.toNat) (λσ=>∃ v,σ = [v,some (.ref p)]) (λi zs H4=>aD H3 H4/\∃ rs:List Addr,zs=rs.map V.ref/\rs.length=i/\∀ (j:Nat) q,rs[j]?=some q->∃ r,H4 q=some (.tup (r.map V.int))/\Ris r (λx=>∃ d∈kd,((d.count (j:Int):Nat):Int)=x)) (cZ (by omega)) ⟨none,rfl⟩ ⟨aD.refl _,[],rfl,rfl,λj q h=>by simp at h⟩ (λi zs _ h=>by obtain ⟨_,rs,rfl,h,_⟩:=h; rw [Qb]; omega) ?_ ?_⟩
   ·rintro j zs σ H4 hj ⟨v,rfl⟩ ⟨s4,rs,rfl,hz4,hrs⟩ hz
    rw [Zd]
    have at_:∀ d,(aF n d)[j]?=some ((d.count (j:Int):Nat):Int):=λd=>by
     unfold aF bZ
     rw [Jo,Qe,Xe hj]; rfl
    refine cI ?_
    refine ⟨_,rfl,p,rfl,⟨_,(s3.trans s4).seqL hp⟩,jU (K:=K) (a:=p) (xs:=xs) (λσ=>∃ v1 v2,σ = [v1,v2,some (.int (j:Int))]) (λi zs H5=>aD H4 H5/\zs=((kd.take i).map λd=>((d.count (j:Int):Nat):Int)).map V.int) (cZ (by omega)) ⟨none,none,rfl⟩ ⟨aD.refl _,rfl⟩ (λi zs _ h=>by rw [h.2,Qb,Qb]; exact Zu ..) (λ_ _ _ h=>(s3.trans (s4.trans h.1)).seqL hp) ?_ ?_⟩
    ·rintro i zs σ z H5 hz3 ⟨v1,v2,rfl⟩ ⟨s5,rfl⟩ hsz
     obtain ⟨d,r,dq,hq,ed,rfl,hr1,_,hh1⟩:=rowAt i z H5 (s3.trans (s4.trans s5)) hz3
     refine ⟨r,_,rfl,hr1,rfl,_,_,rfl,_,_,rfl,rfl,?_⟩
     dsimp only [sS]
     rw [if_pos rfl]
     refine ⟨_,rfl,_,rfl,hq,_,(j:Int),.int ((d.count (j:Int):Nat):Int),rfl,rfl,hh1,cF (by rw [Qe,at_]; rfl),hsz,⟨_,_,rfl⟩,s5,?_⟩
     rw [Jd,ed,Qp,Qp]
     rfl
    ·rintro zs H5 ⟨s5,rfl⟩ q1 hq1
     rw [hxl,Jf] at *
     refine ⟨q1,_,aF n c,rfl,SqL.of aB,by unfold aF bZ; rw [Qb,Qb,Js]; omega,λx hx'=>?_,λsp us hsp nd hu hl=>⟨sp,us,rfl,aB,by omega,λq2 out hso hq2=>⟨q2,_,rfl,.inl ⟨SqL.of aB,λl hl'=>?_⟩⟩⟩⟩
     ·obtain ⟨d,hd',rfl⟩:=Qw.mp hx'
      exact (hkm d hd').2.mem_iff.mp (Qi (at_ d))
     ·have s6:=s5.trans ((aD.new hq1).trans ((aD.new hsp).trans ((aD.new hq2).trans (aD.new (o:=.tup (out.map V.int)) hl'))))
      refine ⟨hz,⟨_,rfl⟩,s4.trans s6,rs++[l],by rw [Qp]; rfl,by rw [Qq,hz4]; rfl,λjj q' hq'=>?_⟩
      by_cases hjj:jj < rs.length
      ·rw [Qt hjj] at hq'
       obtain ⟨r,hr1,hr2⟩:=hrs jj q' hq'
       exact ⟨r,s6 _ _ hr1,hr2⟩
      ·rw [Ji (by omega)] at hq'
       have e0:jj - rs.length=0:=by have:=(Qd.mp hq').1; simp at this; omega
       rw [e0] at hq'
       cases hq'
       have ej:jj=j:=by omega
       subst ej
       refine ⟨out,aB,hso.1,λx=>?_⟩
       rw [hso.2,hu,Qw]
   ·rintro zs H4 ⟨s4,rs,rfl,hl4,hrs⟩ hp' hhp
    have s35:=s4.trans (aD.new (o:=.lst (rs.map V.ref)) hhp)
    have s5:=s3.trans s35
    have e5:upd H4 hp' (.lst (rs.map V.ref)) hp'=some (.lst (rs.map V.ref)):=aB
    have hr5:∀ (j:Nat) q,rs[j]?=some q->∃ r,upd H4 hp' (.lst (rs.map V.ref)) q=some (.tup (r.map V.int))/\Ris r (λx=>∃ d∈kd,((d.count (j:Int):Nat):Int)=x):=λj q h=>by
     obtain ⟨r,h1,h2⟩:=hrs j q h
     exact ⟨r,aD.new hhp _ _ h1,h2⟩
    have e35:=s35 _ _ e3
    have hq5:∀ (j:Nat) q,qs[j]?=some q->∃ r,upd H4 hp' (.lst (rs.map V.ref)) q=some (.tup (r.map V.int))/\Ris r (λx=>∃ d∈kd,d[j]?=some x):=λj q h=>by
     obtain ⟨r,h1,h2⟩:=hq3 j q h
     exact ⟨r,s35 _ _ h1,h2⟩
    generalize upd H4 hp' (.lst (rs.map V.ref))=H5 at s5 s35 e5 hr5 e35 hq5 ⊢
    dsimp only [fV]
    refine ⟨_,rfl,_,n,ws,rfl,s5.den _ _ hx,hbk,s5 _ _ hP,λmq mqs hs lv H6 s6 hdp L hm hml hme=>⟨_,rfl,sz2 _ _,λt1 ht1=>?_⟩⟩
    have km:∀ d,d∈kd↔bJ ws (bA d)=true/\Lvl n ws d lv:=λd=>by rw [<- hkd]; exact zK hbk hB hdp L
    have s67:=aD.new (o:=.tup [.ref mq,.ref gp]) ht1
    have s7:=s6.trans s67
    obtain ⟨rr,rl,rm,rd1,rd2⟩:=pS (K:=K) (H:=upd H6 t1 (.tup [.ref mq,.ref gp])) (qs:=mqs) (rs:=qs) (p:=λj x=>∃ d∈kd,d[j]?=some x) (by omega) (λj x ⟨d,h1,h2⟩=>by
     have:=dY hbk (hkm d h1).1 x (Qi h2)
     omega) (λj q h=>⟨_,s67 _ _ (hme j q h),by
     have r:=aFy (lv:=lv) hbk (show j < ws.length by have:=(Qd.mp h).1; omega)
     exact ⟨r.1,λx=>(r.2 x).trans ⟨λ⟨d,a,b,c⟩=>⟨d,(km d).mpr ⟨a,c⟩,b⟩,λ⟨d,a,b⟩=>⟨d,((km d).mp a).1,b,((km d).mp a).2⟩⟩⟩⟩) (λj q h=>by obtain ⟨r,h1,h2⟩:=hq5 j q h; exact ⟨r,s7 _ _ h1,h2⟩)
    have e7:upd H6 t1 (.tup [.ref mq,.ref gp]) t1=some (.tup [.ref mq,.ref gp]):=aB
    have m7:Den K (upd H6 t1 (.tup [.ref mq,.ref gp])) (.list (rr.map bM)) (.ref mq):=cX.mpr ⟨mq,_,rfl,SqL.of (s67 _ _ hm),rd1⟩
    have g7:Den K (upd H6 t1 (.tup [.ref mq,.ref gp])) (.list (rr.map bM)) (.ref gp):=cX.mpr ⟨gp,_,rfl,SqL.of (s7 _ _ e35),rd2⟩
    generalize upd H6 t1 (.tup [.ref mq,.ref gp])=H7 at s7 e7 m7 g7 ⊢
    refine ⟨_,rfl,_,n,ws,rfl,(s5.trans s7).den _ _ hx,hbk,(s5.trans s7) _ _ hP,λvq vqs hs2 lv2 H8 s8 hdp2 L2 hv hvl hve=>⟨_,rfl,sz2 _ _,λt2 ht2=>?_⟩⟩
    have km2:∀ d,d∈kd↔bJ ws (bA d)=true/\Lvl n ws d lv2:=λd=>by rw [<- hkd]; exact zK hbk hB hdp2 L2
    have s89:=aD.new (o:=.tup [.ref vq,.ref hp']) ht2
    have s9:=s8.trans s89
    have s59:=s7.trans s9
    obtain ⟨rv,vl,vm,vd1,vd2⟩:=pS (K:=K) (H:=upd H8 t2 (.tup [.ref vq,.ref hp'])) (qs:=vqs) (rs:=rs) (p:=λj x=>∃ d∈kd,((d.count (j:Int):Nat):Int)=x) (by omega) (λj x ⟨d,h1,h2⟩=>by
     have a:=(aR (hkm d h1).1).1
     have b:=Yu (a:=(j:Int)) (l:=d)
     omega) (λj q h=>by
     obtain ⟨r,h1,h2⟩:=hve j q h
     exact ⟨r,s89 _ _ h1,h2.1,λx=>(h2.2 x).trans ⟨λ⟨d,a,b,c⟩=>⟨d,(km2 d).mpr ⟨a,b⟩,c⟩,λ⟨d,a,b⟩=>⟨d,((km2 d).mp a).1,((km2 d).mp a).2,b⟩⟩⟩) (λj q h=>by obtain ⟨r,h1,h2⟩:=hr5 j q h; exact ⟨r,s59 _ _ h1,h2⟩)
    have f9:upd H8 t2 (.tup [.ref vq,.ref hp']) t2=some (.tup [.ref vq,.ref hp']):=aB
    have v9:Den K (upd H8 t2 (.tup [.ref vq,.ref hp'])) (.list (rv.map bM)) (.ref vq):=cX.mpr ⟨vq,_,rfl,SqL.of (s89 _ _ hv),vd1⟩
    have h9:Den K (upd H8 t2 (.tup [.ref vq,.ref hp'])) (.list (rv.map bM)) (.ref hp'):=cX.mpr ⟨hp',_,rfl,SqL.of (s59 _ _ e5),vd2⟩
    have e9:=s9 _ _ e7
    have m9:=s9.den _ _ m7
    have g9:=s9.den _ _ g7
    generalize upd H8 t2 (.tup [.ref vq,.ref hp'])=H9 at s59 f9 v9 h9 e9 m9 g9 ⊢
    refine ⟨sz2 _ _,λpl hpl'=>?_⟩
    have s10:=aD.new (o:=.lst [.ref t1,.ref t2]) hpl'
    have l10:upd H9 pl (.lst [.ref t1,.ref t2]) pl=some (.lst [.ref t1,.ref t2]):=aB
    have both:∀ (i:Nat) z,[V.ref t1,V.ref t2][i]?=some z->∃ (tt u v:Addr) (rw_:List (List Int)),z=.ref tt/\upd H9 pl (.lst [.ref t1,.ref t2]) tt=some (.tup [.ref u,.ref v])/\SmD 2 (.list (rw_.map bM))/\Den K (upd H9 pl (.lst [.ref t1,.ref t2])) (.list (rw_.map bM)) (.ref u)/\Den K (upd H9 pl (.lst [.ref t1,.ref t2])) (.list (rw_.map bM)) (.ref v):=λi z hz=>by
     match i,hz with
     | 0,hz=>cases hz; exact ⟨t1,mq,gp,rr,rfl,s10 _ _ e9,aHA (by omega) rm,s10.den _ _ m9,s10.den _ _ g9⟩
     | 1,hz=>cases hz; exact ⟨t2,vq,hp',rv,rfl,s10 _ _ f9,aHA (by omega) vm,s10.den _ _ v9,s10.den _ _ h9⟩
    have s510:=s59.trans s10
    generalize upd H9 pl (.lst [.ref t1,.ref t2])=H10 at s510 l10 both ⊢
    refine ⟨pl,rfl,⟨_,SqL.of l10⟩,jO (K:=K) (a:=pl) (xs:=[.ref t1,.ref t2]) (λ_ σ H11=>(∃ v4 v5,σ = [some (.ref ba),some (.ref p),some (.ref gp),some (.ref hp'),v4,v5])/\aD H10 H11) ⟨⟨_,_,rfl⟩,aD.refl _⟩ (λ_ σ H11 _ z=>SqL.of (z.2 _ _ l10)) ?_ ?_⟩
    ·rintro i z σ H11 hz ⟨⟨v4,v5,rfl⟩,s11⟩
     obtain ⟨tt,u,v,rw_,rfl,h1,h2,h3,h4⟩:=both i z hz
     refine ⟨tt,_,rfl,SqT.of (s11 _ _ h1),rfl,_,_,rfl,_,_,rfl,rfl,?_⟩
     dsimp only [fV]
     refine ⟨_,rfl,_,rfl,_,_,_,rfl,h2,s11.den _ _ h3,s11.den _ _ h4,λH12 s12=>⟨_,rfl,?_⟩⟩
     exact gX ⟨⟨_,_,rfl⟩,s11.trans s12⟩
    ·rintro σ H11 ⟨⟨v4,v5,rfl⟩,s11⟩
     have s5b:=s5.trans (s510.trans s11)
     refine ⟨_,rfl,_,n,ws,rfl,s5b.den _ _ hx,hbk,s5b _ _ hP,λhs3 lv3 H12 s12 hdp3 L3=>?_⟩
     have L3':=wJ L3 (dY hbk hdp3) (lR hbk)
     have ek:SM (eU n.toNat lv3 ws)=((xs.length:Nat):Int):=by
      rw [aFx hbk L3.1 L3',hxl,<- hkd]
      congr 2
      exact List.filter_congr λd hd'=>decide_eq_decide.mpr (sP hbk hB hdp3 L3' hd').symm
     rw [ek]
     have s5c:=s5b.trans s12
     exact ⟨_,rfl,p,_,rfl,.inl (s5c.seqL hp),.int xs.length,_,_,rfl,⟨_,rfl⟩,cK.mpr rfl,cK.mpr rfl,λH13 s13=>k _ (s5c.trans s13)⟩
theorem aEw (hb:bC (aV n ws)=true):(aV n ws).showable=true/\(aV n ws).shown.length<=20100:=by
 obtain ⟨hn1,hn6,h12,hw⟩:=bB hb
 have hwk:∀ l∈ws,l.length<=15/\∀ i∈l,i.natAbs < 10^38:=λl hl=>by
  obtain ⟨_,w2,w3⟩:=bL (hw l hl)
  have h1:=eG (by omega) w2 w3
  exact ⟨by omega,λi hi=>by have:=w2 i hi; omega⟩
 obtain ⟨a1,a2⟩:=aD3 (ws:=ws) (by omega) hwk
 obtain ⟨i1,i2⟩:=wI (i:=n) (by omega)
 refine ⟨?_,?_⟩
 ·unfold aV
  rw [PyData.showable,PyData.showableAll,PyData.showableAll,PyData.showableAll,i1,a1]
  rfl
 ·have e:(aV n ws).shown=tupleText [(PyData.int n).shown,(PyData.tuple (ws.map bM)).shown]:=by
   simp only [aV,PyData.shown,PyData.shownAll]
  rw [e]
  have h1:=pG [(PyData.int n).shown,(PyData.tuple (ws.map bM)).shown]
  rw [RaB,RaB,piled_nil] at h1
  omega
theorem aEx {tA tB:TT} {σ:St} {Q:Bool->Hp->Prop} (hA:∀ R:Bool->Hp->Prop,(∀ b,R b H)->tA σ H R) (hB:∀ R:Bool->Hp->Prop,(∀ b,R b H)->tB σ H R) (h:∀ b,Q b H):aGT tA tB σ H Q:=by
 refine hA _ λb=>?_
 cases b with
 | false=>exact gX (h false)
 | true=>exact fZ (hB _ h)
theorem But.seqL' {t:Addr} (e:But t H H') (ht:H t=some (.lst zs)) (n:xs≠zs) (h:SqL K H a xs):SqL K H' a xs:=by
 rcases h with (h | ⟨o,h⟩) | h
 ·exact .inl (.inl (e a _ (λz=>by rw [z,ht] at h; cases h; exact n rfl) h))
 ·exact .inl (.inr ⟨o,e a _ (λz=>by rw [z,ht] at h; cases h) h⟩)
 ·exact .inr h
theorem fP.rows {t:Addr} (T:fP K H t a ns) (b:But t H H') (hn:1<=n):∀ {ds:List (List Int)} {xs:List V},aT K H (ds.map (mI n)) xs->aT K H' (ds.map (mI n)) xs
 | [],xs,h=>aO.mpr (aO.mp h)
 | d::ds,xs,h=>by
  obtain ⟨x,r,h1,h2,h3⟩:=aL.mp h
  obtain ⟨q,dq,hq,g1,g2,g3,g4⟩:=kT.mp h2
  obtain ⟨⟨p2,q2,_,ht⟩,_⟩:=id T
  refine aL.mpr ⟨x,r,h1,kT.mpr ⟨q,dq,hq,g1,b.seqT ht g2,b.seqT ht g3,b.seqL' ht (λz=>?_) g4⟩,fP.rows T b hn h3⟩
  obtain ⟨m,hm⟩:∃ m,aF n d=m:=⟨_,rfl⟩
  rw [hm] at z
  match m,z with
  | [],z=>cases z
  | _::_,z=>cases z
theorem fP.kept {t:Addr} (T:fP K H t a ns) (b:But t H H') {ds:List (List Int)} {p:Addr} (h:aT K H (ds.map (mI n)) xs) (hp:SqL K H p xs):SqL K H' p xs:=by
 obtain ⟨⟨p2,q2,_,ht⟩,_⟩:=id T
 refine b.seqL' ht (λz=>?_) hp
 subst z
 match ds,h with
 | [],h=>cases aO.mp h
 | [d],h =>
  obtain ⟨x,r,h1,_,h3⟩:=aL.mp h
  rw [aO.mp h3] at h1; cases h1
 | d::e::ds,h =>
  obtain ⟨x,r,h1,_,h3⟩:=aL.mp h
  obtain ⟨y,r2,h4,h5,_⟩:=aL.mp h3
  obtain ⟨q,dq,hq,g1,_⟩:=kT.mp h5
  rw [h4,g1] at h1
  cases h1
def aBK (K:Rc) (Pt:Addr):Sp:=λvs H Q _=>∃ (a:Addr) (ns:List Int),vs = [.ref a]/\SqL K H a (ns.map V.int)/\H Pt=some (.tab oC)/\∀ H',H' Pt=some (.tab oC)->Q (.bl true) H'
theorem oP:FnScope ["script", "tape", "k", "book", "kept", "best", "twin", "page", "some"] ["script"] (aG aGy):=⟨rfl,rfl,rfl,by decide +kernel,rfl,by decide +kernel,by decide +kernel⟩
set_option maxHeartbeats 2000000 in
theorem aGP {fF fT fBe fR:Addr} {dF dT dBe dR:FuncData} (G:Fn K mg "law" aGy ["script"] f fd) (B:Bl mg) (GB:Fn K mg "_law_b_book" aBf ["tape", "hands", "works"] fB dB) (OB:FnOk P w K mg base CX0 4 fB dB ["tape", "hands", "works"] (aDV K)) (GFe:Fn K mg "_law_b_few" aFc ["book", "most"] fF dF) (OFe:FnOk P w K mg base CX0 1 fF dF ["book", "most"] (aFU K)) (GTw:Fn K mg "_law_b_twin" yG ["tape", "book", "deal"] fT dT) (OTw:FnOk P w K mg base CX0 3 fT dT ["tape", "book", "deal"] (aDW K)) (GBe:Fn K mg "_law_b_best" uC ["book"] fBe dBe) (OBe:FnOk P w K mg base CX0 4 fBe dBe ["book"] (aEp K)) (GRi:Fn K mg "_law_b_right" iC ["book", "some"] fR dR) (ORi:FnOk P w K mg base CX0 14 fR dR ["book", "some"] (aBJ K Pt)):FnOk P w K mg base CX0 15 f fd ["script"] (aBK K Pt):=by
 refine G.fn.ok oP (λvs H Q E h=>?_) (λcdv A outer s H vs Q E hr h=>?_)
 ·obtain ⟨a,ns,rfl,_⟩:=h
  rfl
 ·obtain ⟨a,ns,rfl,hns,hPt,k⟩:=h
  have r1:Room 1 _:=hr.mono (by decide)
  have r3:Room 3 _:=hr.mono (by decide)
  have r4:Room 4 _:=hr.mono (by decide)
  have r14:Room 14 _:=hr
  refine ⟨_,(aE (aS (i:=1) oP.nd rfl (Or.inl rfl) (eP (aA (pv 0) (aA aI (aA aI aC)))))
  (aE (eF PassesOwn.never rfl (dP rfl B.range (aA aI aC)) (aK (i:=2) oP.nd rfl (Or.inl rfl))
   (aE (cJ (PW.pt (zM (bE aAU (pv 2) aI (bD _)) (uT (bE wT (aZ cG (pv 1) aI (λ_ _=>rfl)) (aM aY rfl B.len eV (aA (pv 0) aC)) (bD _)))))
   (aJ aCK)
   bI)
  (aE (aS (i:=3) oP.nd rfl (Or.inl rfl) (bF GFe OFe r1 rfl (aA (bF GB OB r4 rfl (aA (pv 1) (aA aI (aA aI aC)))) (aA (aZ cG (eP (aA aI (aA aI (aA aI aC)))) (pv 2) (λ_ _=>rfl)) aC))))
  (aE (aS (i:=4) oP.nd rfl (Or.inl rfl) (aM (tU hr.gd hr.u64) rfl B.repr aDM (aA (pv 3) aC)))
  (aE (aS (i:=5) oP.nd rfl (Or.inl rfl) (bF GBe OBe r4 rfl (aA (pv 3) aC)))
  (aE (aS (i:=6) oP.nd rfl (Or.inl rfl) (bF GFe OFe r1 rfl (aA (bF GTw OTw r3 rfl (aA (pv 1) (aA (pv 3) (aA (aZ bY (aZ cG (pv 5) aI (λ_ _=>rfl)) aI (λ_ _=>rfl)) aC)))) (aA aI aC))))
  (aJ (eF PassesOwn.never rfl (eZ (eP (aA (cH (aA (pv 3) (aA (pv 5) aC))) (aA (cH (aA (pv 6) (aA (bF GBe OBe r4 rfl (aA (pv 6) aC)) aC))) aC)))) (fM rfl (aU (aK (i:=7) oP.nd rfl (Or.inl rfl)) (aU (aK (i:=8) oP.nd rfl (Or.inl rfl)) cP)))
   (aJ (cJ (PW.pt (jB (eO (eC (bF GRi ORi r14 rfl (aA (pv 7) (aA (pv 8) aC))))) (gL (bE pT (aM (tU hr.gd hr.u64) rfl B.repr aDM (aA (pv 3) aC)) (pv 4) (bD _)))))
   (aJ (aX iE))
   bI))))))))))
  (aJ (aX iE)))),?_⟩
  refine ⟨_,rfl,cZ (show 3<=1000 by decide),λt ht=>?_⟩
  have hTape:fP K (upd H t (.lst [.ref a,.int 0,.int 0])) t a ns:=⟨⟨0,0,by decide,aB⟩,(aD.new ht).seqL hns⟩
  have nPt:Pt≠t:=λz=>by rw [z,ht] at hPt; cases hPt
  have P1:=(aD.new (o:=.lst [.ref a,.int 0,.int 0]) ht) _ _ hPt
  generalize upd H t (.lst [.ref a,.int 0,.int 0])=H1 at hTape P1 ⊢
  refine ⟨3,rfl,by decide,by decide,oR (lo:=0) (n:=3) (λi σ H2=>(∃ v2 v3 v4 v5 v6 v7 v8,σ = [some (.ref a),some (.ref t),v2,v3,v4,v5,v6,v7,v8])/\fP K H2 t a ns/\H2 Pt=some (.tab oC)) ⟨⟨_,_,_,_,_,_,_,rfl⟩,hTape,P1⟩ ?_ ?_⟩
  ·rintro i σ H2 hi ⟨⟨v2,v3,v4,v5,v6,v7,v8,rfl⟩,T2,P2⟩
   obtain ⟨⟨p2,q2,hp2,ht2⟩,hns2⟩:=id T2
   refine aEx (λR hR=>⟨_,rfl,_,_,rfl,rfl,_,rfl,hR _⟩) (λR hR=>⟨_,rfl,t,_,1,.int p2,rfl,rfl,SqL.of ht2,rfl,_,rfl,a,_,rfl,.inl hns2,_,_,rfl,rfl,_,rfl,hR _⟩) (λb=>?_)
   refine cU (λ_=>?_) (λ_=>?_)
   ·exact k _ P2
   obtain ⟨mo,hmo1,hmo2,hat⟩:∃ mo:Nat,1<=mo/\mo<=300/\atI [V.int 300,V.int 100,V.int 100] (0+(i:Int))=some (V.int (mo:Int)):=by
    match i,hi with
    | 0,_=>exact ⟨300,by decide,by decide,rfl⟩
    | 1,_=>exact ⟨100,by decide,by decide,rfl⟩
    | 2,_=>exact ⟨100,by decide,by decide,rfl⟩
   refine ⟨_,rfl,t,a,ns,rfl,T2,λn0 ws0 bp0 H3 hb0 b3 T3 hbk0=>⟨cZ (show 3<=1000 by decide),λlp hlp=>?_⟩⟩
   have P3:=b3 _ _ nPt P2
   have s4:=aD.new (o:=.lst [.int 300,.int 100,.int 100]) hlp
   refine ⟨_,rfl,lp,_,_,.int (mo:Int),rfl,rfl,SqL.of aB,hat,?_⟩
   have T4:=T3.same s4
   have P4:=s4 _ _ P3
   have hbk4:=s4.den _ _ hbk0
   generalize upd H3 lp (.lst [.int 300,.int 100,.int 100])=H4 at T4 P4 hbk4 ⊢
   refine ⟨_,n0,ws0,mo,rfl,hmo1,hbk4,hb0,λbp H5 ws s5 hbk hb hpl=>?_⟩
   have T5:=T4.same s5
   have P5:=s5 _ _ P4
   obtain ⟨hn1,hn6,h12,hws⟩:=bB hb
   obtain ⟨sh,sl⟩:=aEw hb
   have sl':(aV n0 ws).shown.length<=sizeLine:=by rw [Rf]; omega
   have hcl:=yQ n0 ws
   have hdp:(aV n0 ws).depth<=60:=by have:=aAz n0 ws; omega
   refine ⟨_,rfl,aV n0 ws,bp,rfl,hbk,pI _ hcl,PyData.hasDict_of_canLay _ hcl,sh,hdp,sl',?_⟩
   refine ⟨_,rfl,.ref bp,n0,ws,rfl,hbk,hb,by omega,λbl c xs H6 s6 hB hbl hxs=>?_⟩
   have T6:=T5.same s6
   have P6:=s6 _ _ P5
   have hbk6:=s6.den _ _ hbk
   have hxl:=aN hxs
   have hcm:c∈(aW ws).filter λd=>decide ((aF n0 d).Perm (aF n0 c)):=Jz.mpr ⟨hX _ ws rfl c hB.1,decide_eq_true (List.Perm.refl _)⟩
   rw [Qb] at hxl
   have hx0:0 < xs.length:=by rw [hxl]; exact Xl.mpr (Qan hcm)
   obtain ⟨z0,hz0⟩:∃ z,xs[0]?=some z:=⟨_,Qc hx0⟩
   obtain ⟨dd,hdd,dend⟩:=bU hxs hz0
   rw [Qe] at hdd
   obtain ⟨d0,ed0,rfl⟩:∃ d,((aW ws).filter λd=>decide ((aF n0 d).Perm (aF n0 c)))[0]?=some d/\mI n0 d=dd:=by
    cases q:((aW ws).filter λd=>decide ((aF n0 d).Perm (aF n0 c)))[0]? with
    | none=>rw [q] at hdd; cases hdd
    | some d=>rw [q] at hdd; exact ⟨d,rfl,Option.some.inj hdd⟩
   obtain ⟨r0,dq0,hq0,rfl,hr0,hd0,_⟩:=kT.mp dend
   have hdp0:=cE _ ws rfl d0 (Jz.mp (Qi ed0)).1
   refine ⟨_,rfl,_,rfl,_,rfl,bl,_,0,.ref r0,rfl,rfl,SqL.of hbl,cF (j:=0) hz0,r0,_,0,.ref dq0,rfl,rfl,hr0,rfl,?_⟩
   refine ⟨t,a,ns,.ref bp,.ref dq0,n0,ws,d0,rfl,T6,⟨hbk6,hb,aP.mpr ⟨dq0,rfl,hd0⟩,hdp0⟩,λtp n' ws' H7 b7 T7 g7=>?_⟩
   have P7:=b7 _ _ nPt P6
   have hbk7:=T6.den b7 (pZ n0 ws) hbk6
   have hxs7:=T6.rows b7 hn1 hxs
   have hbl7:=T6.kept b7 hxs (SqL.of hbl)
   refine ⟨.ref tp,n',ws',100,rfl,by decide,g7.1,g7.2.1,λtq H8 us s8 htk htb htl=>?_⟩
   have T8:=T7.same s8
   have P8:=s8 _ _ P7
   refine ⟨_,rfl,_,rfl,sz2 _ _,λt1 ht1=>?_⟩
   have s9:=aD.new (o:=.tup [.ref bp,.ref bl]) ht1
   have e9:upd H8 t1 (.tup [.ref bp,.ref bl]) t1=some (.tup [.ref bp,.ref bl]):=aB
   have s79:=s8.trans s9
   have htk9:=s9.den _ _ htk
   have T9:=T8.same s9
   generalize upd H8 t1 (.tup [.ref bp,.ref bl])=H9 at e9 s79 htk9 T9 ⊢
   refine ⟨_,rfl,_,rfl,.ref tq,n',us,rfl,htk9,htb,by omega,λbl2 c2 xs2 H10 s10 hB2 hbl2 hxs2=>⟨sz2 _ _,λt2 ht2=>?_⟩⟩
   have s11:=aD.new (o:=.tup [.ref tq,.ref bl2]) ht2
   have f11:upd H10 t2 (.tup [.ref tq,.ref bl2]) t2=some (.tup [.ref tq,.ref bl2]):=aB
   have hbl11:=s11.seqL (K:=K) (SqL.of hbl2)
   have hxs11:=s11.denAll _ _ hxs2
   have s911:=s10.trans s11
   have e11:=s911 _ _ e9
   have htk11:=s911.den _ _ htk9
   have T11:=T9.same s911
   have s711:=s79.trans s911
   generalize upd H10 t2 (.tup [.ref tq,.ref bl2])=H11 at f11 hbl11 hxs11 e11 htk11 T11 s711 ⊢
   refine ⟨sz2 _ _,λpl hpl'=>?_⟩
   have s12:=aD.new (o:=.lst [.ref t1,.ref t2]) hpl'
   have l12:upd H11 pl (.lst [.ref t1,.ref t2]) pl=some (.lst [.ref t1,.ref t2]):=aB
   have s712:=s711.trans s12
   have T12:=T11.same s12
   have P12:=s712 _ _ P7
   have both:∀ (i:Nat) z,[V.ref t1,V.ref t2][i]?=some z->∃ tt u v n1 ws1 c1 xs1,z=.ref tt/\upd H11 pl (.lst [.ref t1,.ref t2]) tt=some (.tup [.ref u,.ref v])/\Den K (upd H11 pl (.lst [.ref t1,.ref t2])) (aV n1 ws1) (.ref u)/\bC (aV n1 ws1)=true/\bW ws1<=300/\gI n1 ws1 (aW ws1).length c1/\SqL K (upd H11 pl (.lst [.ref t1,.ref t2])) v xs1/\aT K (upd H11 pl (.lst [.ref t1,.ref t2])) (((aW ws1).filter λd=>decide ((aF n1 d).Perm (aF n1 c1))).map (mI n1)) xs1:=λi z hz=>by
    match i,hz with
    | 0,hz=>cases hz; exact ⟨t1,bp,bl,n0,ws,c,xs,rfl,s12 _ _ e11,s712.den _ _ hbk7,hb,by omega,hB,s712.seqL hbl7,s712.denAll _ _ hxs7⟩
    | 1,hz=>cases hz; exact ⟨t2,tq,bl2,n',us,c2,xs2,rfl,s12 _ _ f11,s12.den _ _ htk11,htb,by omega,hB2,s12.seqL hbl11,s12.denAll _ _ hxs11⟩
   have hbk12:=s712.den _ _ hbk7
   generalize upd H11 pl (.lst [.ref t1,.ref t2])=H12 at l12 T12 P12 both hbk12 ⊢
   refine ⟨pl,rfl,⟨_,SqL.of l12⟩,jO (K:=K) (a:=pl) (xs:=[.ref t1,.ref t2]) (λ_ σ H13=>(∃ v7 v8,σ = [some (.ref a),some (.ref t),some (.int (0+(i:Int))),some (.ref bp),some (.str (aV n0 ws).shown),some (.ref bl),some (.ref tq),v7,v8])/\aD H12 H13) ⟨⟨_,_,rfl⟩,aD.refl _⟩ (λ_ σ H13 _ z=>SqL.of (z.2 _ _ l12)) ?_ ?_⟩
   ·rintro m z σ H13 hz ⟨⟨v7,v8,rfl⟩,s13⟩
    obtain ⟨tt,u,v,n1,ws1,c1,xs1,rfl,h1,h2,h3,h4,h5,h6,h7⟩:=both m z hz
    refine ⟨tt,_,rfl,SqT.of (s13 _ _ h1),rfl,_,_,rfl,_,_,rfl,rfl,?_⟩
    dsimp only [fV]
    refine ⟨_,rfl,_,rfl,.ref u,v,n1,ws1,c1,xs1,rfl,s13.den _ _ h2,h3,h4,s13 _ _ P12,h5,s13.seqL h6,s13.denAll _ _ h7,λH14 s14=>⟨_,rfl,?_⟩⟩
    refine gX ?_
    have s1214:=s13.trans s14
    refine ⟨_,rfl,aV n0 ws,bp,rfl,s1214.den _ _ hbk12,pI _ hcl,PyData.hasDict_of_canLay _ hcl,sh,hdp,sl',_,rfl,rfl,_,rfl,?_⟩
    rw [pR]
    exact gX ⟨⟨_,_,rfl⟩,s1214⟩
   ·rintro σ H13 ⟨⟨v7,v8,rfl⟩,s13⟩
    exact ⟨⟨_,_,_,_,_,_,_,rfl⟩,T12.same s13,s13 _ _ P12⟩
  ·rintro σ H2 ⟨_,_,P2⟩
   exact k _ P2
end Ab
namespace Ab
open PySem L2 PyProof.Rows
theorem aHB (X:K.In h) (G:h.Ns mainGlobals mg) {x:Str} {kV:Value} (hb:∀ (kV doc pm:Value) (an:Option Addr) (cdv ct:Value) (us:List Value),us.length=ps.length->bindArgs (Ti x x (jC st) (eK st) (aG st) .none kV doc pm an cdv ct) ⟨us,[]⟩=pure (ps.zip us)) (a:Rp K mainGlobals x=some (some (.ref f))) (l:K.lookup f=some ⟨oc,od,.func (Ti x x (jC st) (eK st) (aG st) .none kV doc pm an cdv ct),osl⟩) (c:Vd K cdv x=true) (k:Tn K (.ref f)=true) :
  ∃ f fd,Fn K mg x st ps f fd:=by
 have F:=aCZ (st:=st) l c k
 exact ⟨f,_,F,Vq X G a,k,F.binds hb⟩
theorem aGQ (X:K.In h) (G:h.Ns mainGlobals mg) {x:Str} {kV:Value} (hb:∀ (kV doc pm:Value) (an:Option Addr) (cdv ct:Value) (us:List Value),us.length=ps.length->bindArgs (Ti x x (jC st) (eK st) (aG st) .none kV doc pm an cdv ct) ⟨us,[]⟩=pure (ps.zip us)) (a:Rp K mainGlobals x=some (some (.ref f))) (l:K.lookup f=some ⟨oc,od,.func (Ti x x (jC st) (eK st) (aG st) .none kV doc pm an cdv ct),osl⟩) (c:Vd K cdv x=true) (k:Tn K (.ref f)=true) :
  ∃ f fd,Fn K mg x st ps f fd/\fd.code=cdv:=by
 have F:=aCZ (st:=st) l c k
 exact ⟨f,_,⟨F,Vq X G a,k,F.binds hb⟩,rfl⟩
theorem aHC (X:K.In h) (G:h.Ns mainGlobals mg) {t6 t12:Tok} (z0:Rp K mainGlobals "isinstance" = some none) (z1:Rp K mainGlobals "int" = some none) (z2:Rp K mainGlobals "bool" = some none) (z3:Rp K mainGlobals "tuple" = some none) (z4:Rp K mainGlobals "list" = some none) (z5:Rp K mainGlobals "len" = some none) (z6:Rp K mainGlobals "all" = some none) (z7:Rp K mainGlobals "zip" = some none) (z8:Rp K mainGlobals "range" = some none) (z9:Rp K mainGlobals "sorted" = some none) (z10:Rp K mainGlobals "set" = some none) (z11:Rp K mainGlobals "sum" = some none) (z12:Rp K mainGlobals "repr" = some none) (z13:Rp K mainGlobals "enumerate" = some none) (z14:Rp K mainGlobals "min" = some none) (zA:Rp K mainGlobals "MOST_HANDS" = some (some (.int 6 t6))) (zB:Rp K mainGlobals "MOST_WORKS" = some (some (.int 12 t12))):Bl mg :=
 ⟨Rm X G z0,Rm X G z1,Rm X G z2,Rm X G z3,Rm X G z4,Rm X G z5,Rm X G z6,Rm X G z7,Rm X G z8,Rm X G z9,Rm X G z10,Rm X G z11,Rm X G z12,Rm X G z13,Rm X G z14,⟨_,Vq X G zA⟩,⟨_,Vq X G zB⟩⟩
theorem aFA {l:Ic} {fa:Addr} (hfa:mg "law" = some (.ref fa)) (B:Bl mg) (hLO:∃ f fd,Fn K mg "levels_or_way" aDN ["book", "deal"] f fd/\fd.code=.ref c) (hZ:∀ base:Heap,base.BuiltinsAt mg Pt->Lm K mg base c Pt) (hW:∃ f fd,Fn K mg "is_whole" mZ ["thing"] f fd) (hH:∃ f fd,Fn K mg "are_hands" rM ["thing"] f fd) (hKw:∃ f fd,Fn K mg "is_work" rN ["hands", "thing"] f fd) (hBP:∃ f fd,Fn K mg "is_book" rO ["thing"] f fd) (hDP:∃ f fd,Fn K mg "is_deal" vT ["book", "thing"] f fd) (hNB:∃ f fd,Fn K mg "need_book" aAj ["book"] f fd) (hND:∃ f fd,Fn K mg "need_deal" aAk ["book", "deal"] f fd) (hC:∃ f fd,Fn K mg "counted" lK ["hands", "deal"] f fd) (hL:∃ f fd,Fn K mg "loads" aAl ["book", "deal"] f fd) (hFA:∃ f fd,Fn K mg "falling" nR ["book", "deal"] f fd) (hHD:∃ f fd,Fn K mg "handing" lL ["book", "deal"] f fd) (hRC:∃ f fd,Fn K mg "reached" nS ["rows", "first"] f fd) (hWT:∃ f fd,Fn K mg "way_to" vU ["found", "last"] f fd) (hST:∃ f fd,Fn K mg "is_step" uA ["book", "deal", "step"] f fd) (hWY:∃ f fd,Fn K mg "is_way" aAm ["book", "deal", "some"] f fd) (hNW:∃ f fd,Fn K mg "need_way" vV ["book", "deal", "some"] f fd) (hGO:∃ f fd,Fn K mg "gone" aBd ["book", "deal", "some"] f fd) (hBT:∃ f fd,Fn K mg "bettered" iP ["book", "deal"] f fd) (hEV:∃ f fd,Fn K mg "evenest" jX ["book"] f fd) (hAE:∃ f fd,Fn K mg "is_as_even" qL ["book", "deal", "work", "hand"] f fd) (hMG:∃ f fd,Fn K mg "may_go" rP ["book"] f fd) (hWW:∃ f fd,Fn K mg "with_work" vW ["rows", "takers", "levels"] f fd) (hEL:∃ f fd,Fn K mg "even_loads" iX ["book"] f fd) (hMH:∃ f fd,Fn K mg "may_have" hV ["book"] f fd) (hHM:∃ f fd,Fn K mg "how_many" nT ["book"] f fd) (hS:∃ f fd,Fn K mg "_law_b_stirred" aBe ["cell", "at"] f fd) (hD:∃ f fd,Fn K mg "_law_b_digit" pD ["tape", "many"] f fd) (hWK:∃ f fd,Fn K mg "_law_b_work" uB ["tape", "hands", "kind"] f fd) (hBK:∃ f fd,Fn K mg "_law_b_book" aBf ["tape", "hands", "works"] f fd) (hHP:∃ f fd,Fn K mg "_law_b_heaps" vX ["book", "deal"] f fd) (hNL:∃ f fd,Fn K mg "_law_b_no_less" nU ["ones", "others"] f fd) (hSA:∃ f fd,Fn K mg "_law_b_same" rQ ["found", "due"] f fd) (hAD:∃ f fd,Fn K mg "_law_b_all_deals" jY ["book"] f fd) (hFW:∃ f fd,Fn K mg "_law_b_few" aFc ["book", "most"] f fd) (hBE:∃ f fd,Fn K mg "_law_b_best" uC ["book"] f fd) (hRI:∃ f fd,Fn K mg "_law_b_right" iC ["book", "some"] f fd) (hTN:∃ f fd,Fn K mg "_law_b_twin" yG ["tape", "book", "deal"] f fd) (hLW:∃ f fd,Fn K mg "law" aGy ["script"] f fd)
  : ∃ fd:FuncData,(∀ (s:Shared) (v:Value),BindsTo s fd ⟨[v],[]⟩ [("script",v)])/\∀ base:Heap,K.In base->base.Ns mainGlobals mg->base.BuiltinsAt mg Pt->FnOk l.prog w K mg base CX0 15 fa fd ["script"] (aBK K Pt):=by
 obtain ⟨fLO,dLO,LO,hc⟩:=hLO
 obtain ⟨fW,dW,W⟩:=hW
 obtain ⟨fH,dH,H⟩:=hH
 obtain ⟨fKw,dKw,Kw⟩:=hKw
 obtain ⟨fBP,dBP,BP⟩:=hBP
 obtain ⟨fDP,dDP,DP⟩:=hDP
 obtain ⟨fNB,dNB,NB⟩:=hNB
 obtain ⟨fND,dND,ND⟩:=hND
 obtain ⟨fC,dC,C⟩:=hC
 obtain ⟨fL,dL,L⟩:=hL
 obtain ⟨fFA,dFA,FA⟩:=hFA
 obtain ⟨fHD,dHD,HD⟩:=hHD
 obtain ⟨fRC,dRC,RC⟩:=hRC
 obtain ⟨fWT,dWT,WT⟩:=hWT
 obtain ⟨fST,dST,ST⟩:=hST
 obtain ⟨fWY,dWY,WY⟩:=hWY
 obtain ⟨fNW,dNW,NW⟩:=hNW
 obtain ⟨fGO,dGO,GO⟩:=hGO
 obtain ⟨fBT,dBT,BT⟩:=hBT
 obtain ⟨fEV,dEV,EV⟩:=hEV
 obtain ⟨fAE,dAE,AE⟩:=hAE
 obtain ⟨fMG,dMG,MG⟩:=hMG
 obtain ⟨fWW,dWW,WW⟩:=hWW
 obtain ⟨fEL,dEL,EL⟩:=hEL
 obtain ⟨fMH,dMH,MH⟩:=hMH
 obtain ⟨fHM,dHM,HM⟩:=hHM
 obtain ⟨fS,dS,S⟩:=hS
 obtain ⟨fD,dD,D⟩:=hD
 obtain ⟨fWK,dWK,WK⟩:=hWK
 obtain ⟨fBK,dBK,BK⟩:=hBK
 obtain ⟨fHP,dHP,HP⟩:=hHP
 obtain ⟨fNL,dNL,NL⟩:=hNL
 obtain ⟨fSA,dSA,SA⟩:=hSA
 obtain ⟨fAD,dAD,AD⟩:=hAD
 obtain ⟨fFW,dFW,FW⟩:=hFW
 obtain ⟨fBE,dBE,BE⟩:=hBE
 obtain ⟨fRI,dRI,RI⟩:=hRI
 obtain ⟨fTN,dTN,TN⟩:=hTN
 obtain ⟨fLW,dLW,LW⟩:=hLW
 have e:=hfa.symm.trans LW.mgx
 cases e
 have R:Pr K mg fW fH fKw fBP fNB fDP fND fL dW dH dKw dBP dNB dDP dND dL:=⟨W,H,Kw,BP,NB,DP,ND,⟨fC,dC,C⟩,L⟩
 refine ⟨dLW,λs v=>?_,λbase _ _ hBu=>?_⟩
 ·obtain ⟨oc,od,kV,doc,pm,an,cdv,ct,osl,rfl,lk,hcd⟩:=LW.fn.ex
  exact .of_eq rfl
 ·have Z:=hZ base hBu
  have OD:FnOk l.prog w K mg base CX0 2 fD dD ["tape", "many"] (oB K):=aDT D B S
  have OW:FnOk l.prog w K mg base CX0 3 fWK dWK ["tape", "hands", "kind"] (aAs K):=aFk WK B D OD
  have OL:FnOk l.prog w K mg base CX0 8 fLO dLO ["book", "deal"] (aBq K Pt):=aGG LO hc Z B R HD RC WT
  have OBt:FnOk l.prog w K mg base CX0 10 fBT dBT ["book", "deal"] (kQ K Pt):=yU BT B LO OL GO (aFp GO B NW (aD4 NW B R WY ST))
  have OEv:FnOk l.prog w K mg base CX0 11 fEV dEV ["book"] (mD K Pt):=aAG EV B R BT OBt LO OL
  have OEL:FnOk l.prog w K mg base CX0 12 fEL dEL ["book"] (qQ K Pt):=aEh EL B EV OEv WW
  exact aGP LW B BK (aFl BK B D OD WK OW) FW (aGM FW B) TN (aFm TN B D OD) BE (aFz BE B AD (zJ AD B) HP (aDX HP B) NL (aCw NL B)) RI (aEv RI B MG (aEm MG B EV OEv AE (aCC AE B BT OBt FA (aAC FA B R))) MH (aAN MH B EL OEL) HM (aAK HM B EL OEL) SA)
theorem walk {l:Ic} {d:DefRec} {K:Params->Rc} (hn:l.most=some 63) (hdf:d.params.defaults = []) (hq:importsNone q=true) (hY:∀ (w:World) (h:Heap),YP w h->(K w.params).In h) (hT:∀ (w:World) (h:Heap),YP w h->h.get? Pt=some (Rv #[])) (F:(∀ w:World,Ia (K w.params) c Pt=true)->∀ (w:World) (mg:Str->Option Value) (fa:Addr) (h:Heap),(K w.params).In h->h.Ns mainGlobals mg->mg d.name=some (.ref fa) ->
   ∃ fd:FuncData,(∀ (s:Shared) (u:Value),BindsTo s fd ⟨[u],[]⟩ [("script",u)])/\∀ base:Heap,(K w.params).In base->base.Ns mainGlobals mg->base.BuiltinsAt mg Pt->FnOk l.prog w (K w.params) mg base CX0 15 fa fd ["script"] (aBK (K w.params) Pt)) (hKP:∀ w:World,(K w.params).lookup Pt=none) (hC:∀ w:World,Ia (K w.params) c Pt=true) :
  Ran q loose XP YP l.row.toRowW d [] (λf vs=>Rae f vs) :=
 L2.aDt (n:=63) (k:=15) (x := "script") (CX:=λ_=>CX0) (sp:=λw=>aBK (K w.params) Pt) (ts:=[(Pt,oC)]) hn (by decide) hdf ⟨rfl,by decide,by decide,rfl⟩ hq hY
  (λw h Y p hp=>by rw [Qo.mp hp]; exact ⟨hT w h Y,hKP w,c,Mu (hY w h Y) (hC w)⟩) (by simp) (λw mg fa h a b d=>let ⟨fd,h1,h2⟩:=F hC w mg fa h a b d; ⟨fd,h1,λbase k1 k2 k3=>h2 base k1 k2 (k3 _ (Qj ..))⟩)
  (λ_ _ a ns _ hO hS=>⟨a,ns,rfl,hS,hO.2 _ (Qj ..),λH' h=>⟨rfl,λp hp=>by rw [Qo.mp hp]; exact h⟩⟩) λ_ _ _ _ _ z=>z
end Ab
open PySem PySem.W PyProof.Rows
set_option maxRecDepth 100000 in
set_option maxHeartbeats 0 in
theorem PySem.Challenge.cw_ablehands_k14_what_evenest_deals_have_holds : PySem.Challenge.rw_ablehands_k14_what_evenest_deals_have.Holds := by
 w_on; o_law; k_head; (case hw=>w_witness2)
 k_fill
 refine' Ab.walk (l:=PySem.Challenge.rw_ablehands_k14_what_evenest_deals_have) rfl rfl (by decide +kernel) (λw h Y=>PySem.W.km_in_of Y) (λw h Y=>PySem.W.km_tabs_of Y _ (Qj ..)) ?F ?KP ?HC
 case F =>
  intro hC w mg fa h KX G hmg
  refine' Ab.aFA hmg ?B ?hLO ?Z ?hW ?hH ?hKw ?hBP ?hDP ?hNB ?hND ?hC ?hL ?hFA ?hHD ?hRC ?hWT ?hST ?hWY ?hNW ?hGO ?hBT ?hEV ?hAE ?hMG ?hWW ?hEL ?hMH ?hHM ?hS ?hD ?hWK ?hBK ?hHP ?hNL ?hSA ?hAD ?hFW ?hBE ?hRI ?hTN ?hLW
  case Z =>
   intro base hb
   exact ⟨hC w,by decide,hb⟩
  case hLO =>
   refine' Ab.aGQ KX G (λ_ _ _ _ _ _ us hl=>match us,hl with | [_,_],_=>rfl) ?a ?l ?c ?k
   (case a=>k_is); (case l=>k_is); (case c=>k_is); (case k=>k_is)
  case B =>
   apply Ab.aHC KX G <;> k_is
  all_goals (refine' Ab.aHB KX G ?b ?a ?l ?c ?k; (case a=>k_is); (case l=>k_is); (case c=>k_is); (case k=>k_is); (case b=>(intro _ _ _ _ _ _ us hl; first | exact (match us,hl with | [_],_=>rfl) | exact (match us,hl with | [_,_],_=>rfl) | exact (match us,hl with | [_,_,_],_=>rfl) | exact (match us,hl with | [_,_,_,_],_=>rfl))))
 case KP=>intro w; first | k_is | kernel_rfl
 case HC=>intro w; kernel_rfl
