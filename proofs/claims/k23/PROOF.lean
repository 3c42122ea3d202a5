import PyProof.Rows.All
import Wide.All
import OpenK.AllK
import Wide.FinOn
import PyProof.EqAt
import PyProof.EqKinds
import PyProof.TupleCall
import KE.KDictOf
import PyProof.AttrMissSeq
import PyProof.ListNew
import PyProof.Rows.TupDisplay
import PyProof.DictCompW
import PyProof.WalksMore
import PyProof.MinMaxWalk
import PyProof.DictDisplay
import PyProof.DictWalks
import Lean
import PySem.Challenge.RW_ablehands_k23_shares_looked_at
open PySem.Heap renaming get?_push_of_some -> Qa,get?_push_size -> Qm,lt_size -> Qo,size_push -> Jl,get?_update_other -> Jo,get?_update_self -> Xp
open List renaming length_map -> Qb,getElem?_eq_getElem -> Qc,getElem?_eq_some_iff -> Qd,mem_of_getElem? -> Qe,getElem?_map -> Qh,mem_singleton -> Qi,mem_cons -> Qj,size_toArray -> Qk,mem_cons_self -> Qn,mem_append_right -> Qp,not_mem_nil -> Qq,map_append -> Qr,mem_cons_of_mem -> Qs,length_append -> Qt,filter_cons -> Qw,all_eq_true -> Qy,mem_map -> Qz,length_take -> Ja,mem_filter -> Jc,getD_eq_getElem?_getD -> Jd,length_filter_le -> Jf,mem_append -> Jg,take_length -> Jh,getElem?_append_left -> Ji,map_cons -> Jk,getElem?_append_right -> Jm,length_cons -> Jn,any_eq_true -> Jq,mem_range -> Js,take_of_length_le -> Jt,mem_append_left -> Ju,length_singleton -> Jw,mem_iff_getElem? -> Xa,getElem?_range -> Xc,length_pos_iff -> Xd,append_nil -> Xe,lookup_cons -> Xg,replicate_succ -> Xi,length_range -> Xk,filter_append -> Xm,forIn_cons -> Xn,length_replicate -> Xo,forIn_nil -> Xq,nodup_cons -> Xr,length_set -> Xs,getElem?_replicate -> Xu,flatten_cons -> Xx,getElem?_set -> Xy,map_congr_left -> Xz,map_map -> Zb,filterMap_cons -> Zg,length_reverse -> Zh,length_drop -> Zi,getElem_mem -> Zj,zipIdx_cons -> Zk,zipIdx_nil -> Zn,find?_cons -> Zo,any_cons -> Zq,reverse_cons -> Zr,getElem?_zip_eq_some -> Zu,isEmpty_eq_false_iff -> Zv,mem_or_eq_of_mem_set -> Zw,eq_of_mem_replicate -> Zz,all_cons -> Ya,nil_append -> Yb,filter_eq_nil_iff -> Ye,getElem?_inj -> Yg,nodup_append -> Yh,any_map -> Yj,mem_of_mem_take -> Ym,of_mem_zip -> Yn,all_map -> Ys,pairwise_cons -> Yt,take_zero -> Yu,drop_eq_getElem_cons -> Yv,take_add_one -> Yy,length -> Yz,length_eq_zero_iff -> Wc,getElem?_cons_zero -> Wd,getElem?_cons_succ -> We,getElem?_set_self -> Wf,drop_of_length_le -> Wg,getElem?_set_ne -> Wi,getElem?_of_mem -> Wj,take_succ -> Wl,nodup_nil -> Wn,filter_eq_self -> Wq,map_id -> Wr,mem_filterMap -> Ws,filterMap_map -> Wt,map_nil -> Wx
open Nat renaming le_refl -> Qg,lt_of_lt_of_le -> Ql,le_trans -> Qu,lt_irrefl -> Qv,zero_le -> Jj,ne_of_lt -> Jp,min_le_left -> Jv,lt_of_le_of_lt -> Jy,le_succ_of_le -> Zc,le_of_lt -> Ze,le_add_right -> Zl,pow_le_pow_right -> Zt,succ_le_succ -> Zx,ne_of_gt -> Zy,not_lt_zero -> Yd,log2_lt -> Wz
open Bool renaming false_ne_true -> Qx,and_eq_true -> Jb,true_and -> Jr,eq_false_iff -> Jx,false_and -> Jz,eq_iff_iff -> Xf,false_eq_true -> Xl,not_eq_true' -> Zd,false_or -> Wa,and_false -> Wm,or_false -> Wv
open Option renaming map_eq_some_iff -> Je,map_some -> Xj,isSome_iff_exists -> Yw,isSome_map -> Yx,isSome_some -> Wu,getD_none -> Wy
open Int renaming le_refl -> Xb,mul_assoc -> Xh,lt_of_le_of_lt -> Xt,zero_add -> Xv,mul_le_mul -> Xw,mul_right_comm -> Za,mul_comm -> Zf,emod_lt_of_pos -> Zm,le_of_lt -> Zp,fdiv_eq_ediv_of_nonneg -> Zs,emod_nonneg -> Yc,toNat_natCast -> Yf,mul_nonneg -> Yi,mul_le_mul_of_nonneg_right -> Yk,le_trans -> Yl,mul_lt_mul_of_pos_right -> Yo,toNat_of_nonneg -> Yp,le_of_mul_le_mul_right -> Yq,eq_of_mul_eq_mul_right -> Yr,natCast_add -> Wh,mul_ediv_cancel' -> Wk,mul_add -> Wo,mul_pos -> Wp,ediv_one -> Ww,add_mul -> Qaa
open PySem
variable {XP:(Str->Option Value)->Heap->Prop} {a b it f p C dx sl z i1 i2 l1 l2 i3 l3 fW fH fK fB fNB fL fP fA fS fI fN rp fT fU wl:Addr} {A:Around} {osl:Array (Option Value)} {items:Array Value} {L f1:Bool} {op:CmpOp} {e c tg iter value elt tg2 iter2 kx vx:Expr} {fd fdW dW dH dK dB dNB dL dP dA dS dI dN dT dU:FuncData} {h h' h1 base:Heap} {lo:Int} {rm room:Int->Int} {pins:List (Addr×Obj)} {tk ws:List (List Int)} {ss:List (Nat×Int×Int)} {cl:List (Str×Addr)} {ch fp S qs:List Addr} {outer:List Env} {es ifs:List Expr} {l ns left wt:List Int} {ds:List PyData} {body:List Stmt} {N ps loose own frn:List Str} {us bm:List Value} {M:Model} {t' j n m ep n2 x1:Nat} {tn st1 st2:Nat->Heap->Prop} {am:Nat->Int} {hl:Nat->Int->Int} {P1 P2:Nat->Value->Prop} {o ob:Obj} {an od:Option Addr} {hi:Option Int} {os:OsState} {pos' py tpos apos p2 cpos:Pos} {P prog q:Program} {B:Prop} {K:PySem.W.Frag} {R:Result->Shared->Prop} {scope:Scope} {s s' s2:Shared} {st:Stmt} {x name qual z0:Str} {kindOf:Str->Option NameKind} {mg:Str->Option Value} {T:String} {κ α β:Type} {u doc pm cdv ct oc vl vu f0:Value} {RR:Value->Addr->Result->Shared->Prop} {E Q:Value->Shared->Prop} {w:World} {YP:World->Heap->Prop}
namespace PySem.W.Fast
def tw5662607348519905221:=0
def tw546338578780375844:=0
def tw3623578147258199817:=0
def tw1576253582210898002:=0
def tw10803806346942881689:=0
def tw8384663933107971306:=0
def tw10704356111750496963:=0
def tw7824650697016760296:=0
def tw992000933356845798:=0
def tw11031004308739554035:=0
def tw17781035526817508035:=0
def tw4847077441619792694:=0
def tw9418851337940409361:=0
def tw11308071973273300133:=0
def tw6729184238317069360:=0
def tw14522855622303677145:=0
def tw5051134424111918345:=0
def tw5719758498369206519:=0
def tw17777493710211598711:=0
def tw4841513217096505599:=0
def tw580191293240815301:=0
def tw2920375985908321856:=0
def tw11986269694626769127:=0
def tw5645654944474429512:=0
def tw8858023509872481472:=0
def tw3286172750211085465:=0
def tw9733665945491229503:=0
def tw16121403759711184289:=0
def tw15727610753748059039:=0
def tw10938126781431956588:=0
def tw8683179776746587090:=0
def tw16579098496775741766:=0
def tw9768212683918627879:=0
def tw3911607529666440356:=0
def tw15360632604744932824:=0
def tw9955192270102929843:=0
def tw3496336617067934792:=0
def tw10964956842574234297:=0
def tw12490180530181326064:=0
def tw18377226838922576478:=0
def tw1830735093365706589:=0
def tw10202188973983531777:=0
def tw3881017850566585886:=0
def tw6464671695911294210:=0
def tw7057887243621835791:=0
def tw5176237242128822143:=0
def tw1491440890083449063:=0
def tw13986561141140689317:=0
def tw5892914542171920890:=0
def tw15493767695644285711:=0
def tw12127992689027677570:=0
def tw12442000316107878128:=0
def tw2457704000643622014:=0
def tw9060181126100280804:=0
def tw11436782323804248832:=0
def tw5874680150292126426:=0
def tw9994488922032858557:=0
def tw13108354974998553876:=0
def tw10558702307572255514:=0
def tw13848129006002199584:=0
def tw718167068968491832:=0
def tw2056015230270305393:=0
def tw2335252048264730103:=0
def tw17328789198870569978:=0
def tw4641488143001376651:=0
def tw18166736014580574558:=0
def tw5838040678091555214:=0
def tw742220016145798655:=0
def tw1562775850863456227:=0
def tw10510993667486894015:=0
def tw2659218288140011520:=0
def tw10629434916610845896:=0
def tw5613733806499488419:=0
def tw14294386798188392984:=0
def tw14985392469844672383:=0
def tw1694111461979858702:=0
def tw9219146646264935861:=0
def tw7680664631576211729:=0
def tw17195860918640607096:=0
def tw7250061327856811270:=0
def tw3723343596779288466:=0
def tw15563405800643198831:=0
def tw4999714713480421275:=0
def tw13304728751168010365:=0
def tw3837608675390041292:=0
def tw16646056856995728581:=0
def tw9867971015062375175:=0
def tw14714820703909073803:=0
def tw13352127142809572797:=0
def tw2701695854791839937:=0
def tw3713442707552248191:=0
def tw14469413977905950128:=0
def tw15481153377146425280:=0
def tw11732307069469094972:=0
def tw6604416052855132361:=0
def tw8125830592696833113:=0
def tw18296065973113899374:=0
def tw932298770213194601:=0
def tw170113035739586716:=0
def tw6941057639070915144:=0
def tw13382538895511839627:=0
def tw13772740428253369561:=0
def tw5327151932219842420:=0
def tw10323221518338986136:=0
def tw3101294618009653832:=0
def tw2838812650658924223:=0
def tw12503387620736131290:=0
def tw10202269419942112482:=0
def tw12256427104516591010:=0
def tw2630940523178365617:=0
def tw756974355182011925:=0
def tw13446257488632286776:=0
def tw15508144347509789985:=0
def tw9048462444744794422:=0
def tw17055213502932522380:=0
def tw6325172745310698602:=0
def tw4606049897048720208:=0
def tw15625112663651727227:=0
def tw15590740251497007055:=0
def tw5933833717177777149:=0
def tw9220372360561980543:=0
def tw3492012437383798008:=0
def tw15652027929136121863:=0
def tw4159869488842529383:=0
def tw10344470209158074519:=0
def tw6206445689634868356:=0
def tw16506229368726780733:=0
def tw4849716170762178152:=0
def tw961483103915734854:=0
def tw1649803580581955052:=0
end PySem.W.Fast
set_option Elab.async false
set_option linter.all false
set_option maxRecDepth 100000
namespace L2
open PySem PySem.Spec PyProof.Rows
abbrev Key:=Sum Int Str
end L2
open L2
variable {its:List (List Key×Addr×Value)}
namespace L2
open PySem PySem.Spec PyProof.Rows
def uS:Key->Value->Bool
 | .inl k,v=>Value.isInt k v
 | .inr x,v=>Value.isStrOf x v
def aHb (w:World):Key->Int
 | .inl k=>hashInt k
 | .inr x=>hashStr w x
theorem dE:∀ {k:Key} {v:Value},uS k v=true->(∃ i t,k=Sum.inl i/\v=Value.int i t)∨(∃ x t,k=Sum.inr x/\v=Value.str x t)
 | .inl i,v,h=>by
  obtain ⟨t,e⟩:=Value.isInt_shape (k:=i) (v:=v) h
  exact .inl ⟨i,t,rfl,e⟩
 | .inr x,v,h=>by
  obtain ⟨t,e⟩:=Value.isStrOf_shape (x:=x) (v:=v) h
  exact .inr ⟨x,t,rfl,e⟩
theorem aBt (i:Int) (t:Tok):uS (.inl i) (.int i t)=true:=by simp [uS,Value.isInt]
theorem aBu (x:Str) (t:Tok):uS (.inr x) (.str x t)=true:=by simp [uS,Value.isStrOf]
theorem aFn (a b:Int):decide ((Sum.inl a:Key)=Sum.inl b)=(a==b):=by
 by_cases e:a=b
 ·subst e; simp
 ·have h:¬ (Sum.inl a:Key)=Sum.inl b:=fun q=>e (Sum.inl.inj q)
  rw [decide_eq_false h]
  exact (beq_eq_false_iff_ne.mpr e).symm
theorem aFo (a b:Str):decide ((Sum.inr a:Key)=Sum.inr b)=decide (a=b):=by
 by_cases e:a=b
 ·subst e; simp
 ·have h:¬ (Sum.inr a:Key)=Sum.inr b:=fun q=>e (Sum.inr.inj q)
  rw [decide_eq_false h,decide_eq_false e]
theorem aFp (a:Int) (b:Str):decide ((Sum.inl a:Key)=Sum.inr b)=false:=decide_eq_false (fun q=>nomatch q)
theorem aFq (a:Str) (b:Int):decide ((Sum.inr a:Key)=Sum.inl b)=false:=decide_eq_false (fun q=>nomatch q)
def bL (prog:Program) (w:World):PySem.KeyKind prog w Key where
 is:=uS
 hash:=aHb w
 inj:=fun v a b ha hb=>by
  rcases dE ha with ⟨i,t,rfl,rfl⟩ | ⟨x,t,rfl,rfl⟩
  ·rcases dE hb with ⟨j,u,rfl,e⟩ | ⟨y,u,rfl,e⟩
   ·injection e with e1 _; rw [e1]
   ·exact nomatch e
  ·rcases dE hb with ⟨j,u,rfl,e⟩ | ⟨y,u,rfl,e⟩
   ·exact nomatch e
   ·injection e with e1 _; rw [e1]
 byValue:=fun k v h=>by
  rcases dE h with ⟨i,t,rfl,rfl⟩ | ⟨x,t,rfl,rfl⟩ <;> rfl
 pyHash:=fun hv h=>by
  rcases dE hv with ⟨i,t,rfl,rfl⟩ | ⟨x,t,rfl,rfl⟩
  ·exact wpAny_pyHash_int h
  ·exact wpAny_pyHash_str h
 eqBool:=fun hu hv h=>by
  rcases dE hu with ⟨i,t,rfl,rfl⟩ | ⟨x,t,rfl,rfl⟩
  ·rcases dE hv with ⟨j,u,rfl,rfl⟩ | ⟨y,u,rfl,rfl⟩
   ·rw [aFn] at h; exact wpAny_eqBool_int h
   ·rw [aFp] at h; exact SeqAt.EqAt.int_str i t y u _ _ _ _ h
  ·rcases dE hv with ⟨j,u,rfl,rfl⟩ | ⟨y,u,rfl,rfl⟩
   ·rw [aFq] at h; exact SeqAt.EqAt.str_int x t j u _ _ _ _ h
   ·rw [aFo] at h; exact wpAny_eqBool_str h
 «strs»:=fun k x t v h=>by
  rcases dE h with ⟨i,u,rfl,e⟩ | ⟨y,u,rfl,e⟩
  ·exact nomatch e
  ·injection e with e1 _
   subst e1
   cases v <;> rfl
theorem xR (prog:Program) (w:World) (i:Int) (t:Tok):(bL prog w).is (.inl i) (.int i t)=true:=aBt i t
theorem xS (prog:Program) (w:World) (x:Str) (t:Tok):(bL prog w).is (.inr x) (.str x t)=true:=aBu x t
inductive V where
 | non | bl (b:Bool) | int (i:Int) | str (x:Str) | byt (b:Array UInt8) | flt (b:UInt64) | ref (a:Addr) | ty (n:String)
 deriving DecidableEq
end L2
variable {r kvs:List (Key×V)} {rs:List (List (Key×V))} {xs ys vs zs cs:List V} {v y:V}
namespace L2
open PySem PySem.Spec PyProof.Rows
def bI:V->Value->Prop
 | .non,u=>u=Value.none
 | .bl b,u=>u=Value.bool b
 | .int i,u=>∃ t,u=Value.int i t
 | .str x,u=>∃ t,u=Value.str x t
 | .byt b,u=>∃ t,u=Value.bytes b t
 | .flt b,u=>∃ t,u=Value.float b t
 | .ref a,u=>u=Value.ref a
 | .ty n,u=>u=Value.type n
abbrev bJ:List V->List Value->Prop:=Paired bI
theorem bJ.length (r:bJ xs us):xs.length=us.length:=Paired.length r
theorem bJ.get:∀ {xs:List V} {us:List Value} {i:Nat} {x:V},bJ xs us->xs[i]?=some x->∃ u,us[i]?=some u/\bI x u
 | _,_,_,_,.nil,e=>by simp at e
 | _,_,0,_,.cons r _,e=>by simp at e; subst e; exact ⟨_,rfl,r⟩
 | _,_,i+1,x,.cons _ t,e=>by
  obtain ⟨u,h1,h2⟩:=bJ.get (i:=i) (x:=x) t (by simpa using e)
  exact ⟨u,by simpa using h1,h2⟩
theorem bJ.set {x:V} (r:bI x u):∀ {xs:List V} {us:List Value} (i:Nat),bJ xs us->bJ (xs.set i x) (us.set i u)
 | _,_,_,.nil=>.nil
 | _,_,0,.cons _ t=>.cons r t
 | _,_,i+1,.cons q t=>.cons q (bJ.set r i t)
theorem bJ.append:∀ {xs ys:List V} {us ws:List Value},bJ xs us->bJ ys ws->bJ (xs++ys) (us++ws)
 := by
 intro xs ys us ws h s
 induction h with
 | nil=>exact s
 | cons r t ih=>exact .cons r ih
theorem bJ.take:∀ {xs:List V} {us:List Value} (n:Nat),bJ xs us->bJ (xs.take n) (us.take n)
 | _,_,0,_=>.nil
 | _,_,_+1,.nil=>.nil
 | _,_,n+1,.cons r t=>.cons r (bJ.take n t)
theorem bJ.drop:∀ {xs:List V} {us:List Value} (n:Nat),bJ xs us->bJ (xs.drop n) (us.drop n)
 | _,_,0,r=>r
 | _,_,_+1,.nil=>.nil
 | _,_,n+1,.cons _ t=>bJ.drop n t
def rE:Option V->Option Value->Prop
 | some v,some u=>bI v u
 | none,none=>True
 | _,_=>False
def KV:List (κ×V)->List (κ×Value)->Prop:=Paired fun (p:κ×V) (q:κ×Value)=>p.1=q.1/\bI p.2 q.2
def kV:Key->V
 | .inl i=>.int i
 | .inr x=>.str x
inductive HO where
 /-- a list -/
 | lst (xs:List V)
 /-- a tuple (never changes) -/
 | tup (xs:List V)
 /-- a dict whose keys are ints and texts; one whose keys are tuples of ints and texts (the empty one is both) -/
 | dK (kvs:List (Key×V)) | dT (kvs:List (List Key×V))
 /-- a set of ints: its members,its size -/
 | set (S:Int->Bool) (n:Nat)
 /-- an instance of the class at C,its dict at dx,its attributes -/
 | ins (C dx:Addr) (fs:List (Str×V))
 /-- the dict of the instance at x -/
 | own (x:Addr)
 /-- the dict of an exception -/
 | xd (fs:List (Str×V))
 /-- a bound method,f of x -/
 | met (f x:Addr)
 /-- a range object lo,lo+1,.. below hi -/
 | rng (lo hi:Int)
 /-- a thing that is known to the object (the script; a dict while a loop walks it): read,never written while it is so -/
 | frz (o:Obj) (u:HO)
 /-- a code object's table -/
 | tbl (ps:Array Value)
 /-- a code object's table,all of whose codes have the name q; they are tracked as its own -/
 | tab (q:Str)
 /-- any other thing,by what is true of its one object (a def of one's own: aHr a S n:=HO.ext fun h=>..) -/
 | ext (φ:Heap->Prop)
abbrev Hp:=Addr->Option HO
end L2
variable {H H' H1 H2 H0:Hp} {Qf:Hp->List V->Prop}
namespace L2
open PySem PySem.Spec PyProof.Rows
def upd (H:Hp) (a:Addr) (o:HO):Hp:=fun b=>if b=a then some o else H b
theorem aB {o:HO}:upd H a o a=some o:=by unfold upd; rw [if_pos rfl]
theorem aK {o:HO} (h:b≠a):upd H a o b=H b:=by unfold upd; rw [if_neg h]
theorem aAF {o u:HO}:upd (upd H a o) a u=upd H a u:=by
 funext b; unfold upd; split <;> rfl
theorem aGp {o u:HO} (h:H a=some o) (h':H b=some u) (d:o≠u):a≠b:=by
 intro e; subst e; rw [h] at h'; exact d (Option.some.inj h')
theorem iL {o:HO} (h:H a=some o) (h':H b=none):a≠b:=by
 intro e; subst e; rw [h] at h'; cases h'
section
variable (P:Program) (w:World)
def cO (H:Hp) (h:Heap) (a:Addr):HO->Prop
 | .lst xs=>xs.length<=sizeLine/\∃ (its:List Value) (n:Nat),bJ xs its/\h.get? a=some { cls:=.type "list",data:=.seq its.toArray n }
 | .tup xs=>xs.length<=sizeLine/\∃ (its:List Value) (n:Nat),bJ xs its/\h.get? a=some { cls:=.type "tuple",data:=.seq its.toArray n }
 | .dK kvs=>kvs.length<=sizeLine/\(a==sysModules)=false/\∃ vs,KV kvs vs/\h.DictOf (bL P w) a vs
 | .dT kvs => kvs.length <= sizeLine /\ (a == sysModules) = false /\ ∃ xs : List (List Key × Addr × Value),
     Paired (fun (p:List Key×V) (q:List Key×Addr×Value)=>p.1=q.1/\H q.2.1=some (.tup (p.1.map kV))/\bI p.2 q.2.2) kvs xs /\
     ∃ o es ep,h.get? a=some o/\o.ExactDict/\o.data=.dict es ep/\es.toList=xs.map (entryOfKey (tupleKind (bL P w)))/\(xs.map (·.1)).Nodup
 | .set S n=>h.SetOf (intKind P w) a S n
 | .ins C dx fs => H dx = some (.own a) /\ fs.length <= 1000 /\ dx ≠ a /\ h.get? a = some (PySem.W.instObj C dx) /\
     ∃ mA,h.Ns1 dx mA/\(∀ f,rE (fs.lookup f) (mA f))/\PySem.Within mA (fs.map (·.1))
 | .own _=>∃ o,h.get? a=some o
 | .xd fs=>∃ mA,h.Ns1 a mA/\∀ f,rE (fs.lookup f) (mA f)
 | .rng lo hi=>∃ t u v,h.get? a=some { cls:=.type "range",data:=.fields #[.int lo t,.int hi u,.int 1 v] }
 | .frz o u=>h.get? a=some o/\cO H h a u
 | .tbl ps=>h.get? a=some { cls:=.none,data:=.fields ps }
 | .tab q=>∃ ps:Array Value,h.get? a=some { cls:=.none,data:=.fields ps }/\TriplesOk ps.toList/\∀ (pos:Pos) (cv:Value),codeAmong pos ps.toList=some cv->∃ (c:Addr) (o:Obj) (vs:Array Value) (t:Tok),cv=.ref c/\H c=some (.own a)/\h.get? c=some o/\o.data=.fields vs/\vs[1]?=some (.str q t)
 | .met f x=>h.get? a=some (PySem.W.methodObj (.ref f) (.ref x))
 | .ext φ=>φ h/\(∃ o,h.get? a=some o)/\∀ h1 h2:Heap,φ h1->(∀ o,h1.get? a=some o->h2.get? a=some o)->φ h2
def HOk (H:Hp) (h:Heap):Prop:=∀ a o,H a=some o->cO P w H h a o
end
section
variable {o:HO}
theorem cO.lt (x:cO P w H h a o):a < h.objs.size:=by
 cases o with
 | lst xs=>obtain ⟨_,_,_,_,e⟩:=x; exact Qo e
 | tup xs=>obtain ⟨_,_,_,_,e⟩:=x; exact Qo e
 | dK kvs=>obtain ⟨_,_,_,_,o,_,_,e,_⟩:=x; exact Qo e
 | dT kvs=>obtain ⟨_,_,_,_,o,_,_,e,_⟩:=x; exact Qo e
 | set S n=>obtain ⟨o,_,_,_,e,_⟩:=x; exact Qo e
 | ins C dx fs=>obtain ⟨_,_,_,e,_⟩:=x; exact Qo e
 | own y=>obtain ⟨_,e⟩:=x; exact Qo e
 | xd fs=>obtain ⟨_,⟨_,_,_,e,_⟩,_⟩:=x; exact Qo e
 | rng lo hi=>obtain ⟨_,_,_,e⟩:=x; exact Qo e
 | frz ob u=>obtain ⟨e,_⟩:=x; exact Qo e
 | tbl ps=>exact Qo (show h.get? a=some _ from x)
 | tab q=>obtain ⟨_,e,_⟩:=x; exact Qo e
 | met f y=>exact Qo (show h.get? a=some _ from x)
 | ext φ=>obtain ⟨_,⟨_,e⟩,_⟩:=x; exact Qo e
theorem Paired.mapP {F G:α->β->Prop}:∀ {l₁:List α} {l₂:List β},Paired F l₁ l₂->(∀ a b,F a b->G a b)->Paired G l₁ l₂
 := by
 intro l₁ l₂ h f
 induction h with
 | nil=>exact .nil
 | cons r t ih=>exact .cons (f _ _ r) ih
theorem cO.stay (x:cO P w H h a o) (k:∀ b u,(b=a∨H b=some (.own a))->h.get? b=some u->h'.get? b=some u)
  (ho:∀ b,H b=some (.own a)->H' b=some (.own a)) (ht:∀ b xs,H b=some (.tup xs)->H' b=some (.tup xs)):cO P w H' h' a o:=by
 induction o with
 | lst xs=>obtain ⟨z,its,n,r,e⟩:=x; exact ⟨z,its,n,r,k _ _ (.inl rfl) e⟩
 | tup xs=>obtain ⟨z,its,n,r,e⟩:=x; exact ⟨z,its,n,r,k _ _ (.inl rfl) e⟩
 | dK kvs=>obtain ⟨z,y,vs,r,ob,es,ep,e,c⟩:=x; exact ⟨z,y,vs,r,ob,es,ep,k _ _ (.inl rfl) e,c⟩
 | dT kvs =>
  obtain ⟨z,y,xs,r,ob,es,ep,e,c⟩:=x
  exact ⟨z,y,xs,Paired.mapP r fun p q z=>⟨z.1,ht _ _ z.2.1,z.2.2⟩,ob,es,ep,k _ _ (.inl rfl) e,c⟩
 | set S n=>obtain ⟨ob,es,ep,t,e,c⟩:=x; exact ⟨ob,es,ep,t,k _ _ (.inl rfl) e,c⟩
 | ins C dx fs =>
  obtain ⟨d,z,ne,e,mA,⟨od,es,ep,e2,c⟩,r⟩:=x
  exact ⟨ho _ d,z,ne,k _ _ (.inl rfl) e,mA,⟨od,es,ep,k _ _ (.inr d) e2,c⟩,r⟩
 | own y=>obtain ⟨ob,e⟩:=x; exact ⟨ob,k _ _ (.inl rfl) e⟩
 | xd fs=>obtain ⟨mA,⟨od,es,ep,e,c⟩,r⟩:=x; exact ⟨mA,⟨od,es,ep,k _ _ (.inl rfl) e,c⟩,r⟩
 | rng lo hi=>obtain ⟨t,u,v,e⟩:=x; exact ⟨t,u,v,k _ _ (.inl rfl) e⟩
 | frz ob u ih=>obtain ⟨e,q⟩:=x; exact ⟨k _ _ (.inl rfl) e,ih q⟩
 | tbl ps =>
  have e:h.get? a=some { cls:=.none,data:=.fields ps }:=x
  show h'.get? a=some { cls:=.none,data:=.fields ps }
  exact k a _ (.inl rfl) e
 | tab q =>
  obtain ⟨ps,e,z,r⟩:=x
  refine ⟨ps,k _ _ (.inl rfl) e,z,fun pos cv q=>?_⟩
  obtain ⟨c,o,vs,t,r1,r2,r3,r4⟩:=r pos cv q
  exact ⟨c,o,vs,t,r1,ho _ r2,k _ _ (.inr r2) r3,r4⟩
 | met f y =>
  have e:h.get? a=some (PySem.W.methodObj (.ref f) (.ref y)):=x
  show h'.get? a=some (PySem.W.methodObj (.ref f) (.ref y))
  exact k a _ (.inl rfl) e
 | ext φ=>obtain ⟨p,⟨o,e⟩,st⟩:=x; exact ⟨st _ _ p fun o q=>k _ _ (.inl rfl) q,⟨o,k _ _ (.inl rfl) e⟩,st⟩
theorem HOk.lt (x:HOk P w H h) (e:H a=some o):a < h.objs.size:=(x a o e).lt
theorem HOk.fresh (x:HOk P w H h) (e:h.objs.size<=a):H a=none:=by
 cases q:H a with
 | none=>rfl
 | some u=>exact absurd (Ql (x.lt q) e) (Qv _)
theorem HOk.kept (x:HOk P w H h) (k:∀ b u,h.get? b=some u->h'.get? b=some u):HOk P w H h':=fun a o e =>
 (x a o e).stay (fun b u _ q=>k b u q) (fun _ q=>q) fun _ _ q=>q
theorem HOk.laid (x:HOk P w H h) (k:∀ b u,h.get? b=some u->h'.get? b=some u) (hp:h.objs.size<=a) (new:cO P w (upd H a o) h' a o):HOk P w (upd H a o) h':=fun b u e=>by
 have hn:=x.fresh hp
 by_cases hb:b=a
 ·subst hb; rw [aB] at e; cases e; exact new
 ·rw [aK hb] at e
  exact (x b u e).stay (fun c v _ q=>k c v q) (fun c q=>by rw [aK (iL q hn)]; exact q) fun c xs q=>by rw [aK (iL q hn)]; exact q
end
def Rd (H:Hp) (a:Addr) (u:HO):Prop:=H a=some u∨∃ o,H a=some (.frz o u)
theorem Rd.of {u:HO} (h:H a=some u):Rd H a u:=.inl h
theorem Rd.ok {u:HO} (r:Rd H a u) (x:HOk P w H h):cO P w H h a u:=by
 rcases r with r | ⟨o,r⟩
 ·exact x a u r
 ·obtain ⟨_,q⟩:=x a _ r
  exact q
def Mut:Option HO->Prop
 | some (.lst _)=>True
 | some (.dK _)=>True
 | some (.dT _)=>True
 | some (.set _ _)=>True
 | some (.ins _ _ _)=>True
 | some (.ext _)=>True
 | some (.tab _)=>True
 | _=>False
section
variable {x e:Addr} {o':HO}
theorem HOk.write (ok:HOk P w H h) (mu:Mut (H x)) (he:e=x∨H e=some (.own x)) (k:∀ b u,b≠e->h.get? b=some u->h'.get? b=some u) (heo:∃ u,h'.get? e=some u)
  (new:cO P w (upd H x o') h' x o'):HOk P w (upd H x o') h':=fun b u q=>by
 have nown:∀ c y,H c=some (.own y)->c≠x:=fun c y r z=>by subst z; rw [r] at mu; exact mu
 have ntup:∀ c xs,H c=some (.tup xs)->c≠x:=fun c xs r z=>by subst z; rw [r] at mu; exact mu
 by_cases hb:b=x
 ·subst hb; rw [aB] at q; cases q; exact new
 ·rw [aK hb] at q
  by_cases hbe:b=e
  ·have q':H b=some (.own x):=by
    rcases he with z | z
    ·exact absurd (hbe.trans z) hb
    ·rw [hbe]; exact z
   rw [q] at q'; cases q'
   obtain ⟨v,hv⟩:=heo
   exact ⟨v,by rw [hbe]; exact hv⟩
  ·refine (ok b u q).stay (fun c v hc r=>k c v ?_ r) (fun c r=>by rw [aK (nown c b r)]; exact r) fun c xs r=>by rw [aK (ntup c xs r)]; exact r
   rcases hc with rfl | hc
   ·exact hbe
   ·rintro rfl
    rcases he with z | z
    ·exact nown c b hc z
    ·rw [hc] at z; cases z; exact hb rfl
end
structure Un (fs ex:List Addr) (H H':Hp) (h h':Heap):Prop where
 keep:∀ b o,h.get? b=some o->H b=none->b∉fs->b∉ex->h'.get? b=some o
 slot:∀ b o,h.get? b=some o->H b=none->b∈fs->b∉ex->∃ sl,h'.get? b=some { o with slots:=sl }
 free:∀ b o,h.get? b=some o->H b=none->b∉ex->H' b=none
 there:∀ b o,h.get? b=some o->b∉ex->∃ o',h'.get? b=some o'
 tups:∀ b xs,H b=some (.tup xs)->H' b=some (.tup xs)
 frzs:∀ b o u,H b=some (.frz o u)->H' b=some (.frz o u)
 tbls:∀ b ps,H b=some (.tbl ps)->∃ more,H' b=some (.tbl (ps++more))
section
variable {fs fs' ex ex':List Addr} {h2:Heap} {x e:Addr} {o:HO}
theorem Un.any (u:Un fs ex H H1 h h1) (q:h.get? b=some ob) (n:H b=none) (hx:b∉ex):∃ sl,h1.get? b=some { ob with slots:=sl }:=by
 by_cases hb:b∈fs
 ·exact u.slot b ob q n hb hx
 ·exact ⟨ob.slots,u.keep b ob q n hb hx⟩
theorem Un.trans (a:Un fs ex H H1 h h1) (b:Un fs ex H1 H2 h1 h2):Un fs ex H H2 h h2 where
 keep:=fun c ob q n hc hx=>b.keep c ob (a.keep c ob q n hc hx) (a.free c ob q n hx) hc hx
 slot:=fun c ob q n hc hx=>by
  obtain ⟨sl,e1⟩:=a.slot c ob q n hc hx
  obtain ⟨sl',e2⟩:=b.slot c _ e1 (a.free c ob q n hx) hc hx
  exact ⟨sl',e2⟩
 free:=fun c ob q n hx=>by
  obtain ⟨o',e1⟩:=a.there c ob q hx
  exact b.free c o' e1 (a.free c ob q n hx) hx
 there:=fun c ob q hx=>by
  obtain ⟨o',e1⟩:=a.there c ob q hx
  exact b.there c o' e1 hx
 tups:=fun c xs q=>b.tups c xs (a.tups c xs q)
 frzs:=fun c ob xs q=>b.frzs c ob xs (a.frzs c ob xs q)
 tbls:=fun c ps q=>by
  obtain ⟨m1,e1⟩:=a.tbls c ps q
  obtain ⟨m2,e2⟩:=b.tbls c _ e1
  exact ⟨m1++m2,by rw [e2,Array.append_assoc]⟩
theorem Un.kept (k:∀ b u,h.get? b=some u->h'.get? b=some u):Un fs ex H H h h' :=
 ⟨fun b ob q _ _ _=>k b ob q,fun b ob q _ _ _=>⟨ob.slots,k b ob q⟩,fun _ _ _ n _=>n,fun b ob q _=>⟨ob,k b ob q⟩,fun _ _ q=>q,fun _ _ _ q=>q,fun _ ps q=>⟨#[],by rw [q]; simp⟩⟩
theorem Un.refl:Un fs ex H H h h:=Un.kept fun _ _ q=>q
theorem Un.laid (k:∀ b u,h.get? b=some u->h'.get? b=some u) (hp:h.objs.size<=a) (hn:H a=none):Un fs ex H (upd H a o) h h' where
 keep:=fun b u q _ _ _=>k b u q
 slot:=fun b u q _ _ _=>⟨u.slots,k b u q⟩
 free:=fun b u q n _=>by rw [aK (Jp (Ql (Qo q) hp))]; exact n
 there:=fun b u q _=>⟨u,k b u q⟩
 tups:=fun b xs q=>by rw [aK (iL q hn)]; exact q
 frzs:=fun b u xs q=>by rw [aK (iL q hn)]; exact q
 tbls:=fun b ps q=>⟨#[],by rw [aK (iL q hn),q]; simp⟩
theorem Un.write (mu:Mut (H x)) (he:e=x∨H e=some (.own x)) (k:∀ b u,b≠e->h.get? b=some u->h'.get? b=some u) (heo:∃ u,h'.get? e=some u):Un fs ex H (upd H x o) h h':=by
 have hx:∀ b,H b=none->b≠x:=fun b n z=>by subst z; rw [n] at mu; exact mu
 have hb:∀ b,H b=none->b≠e:=fun b n z=>by
  subst z
  rcases he with r | r
  ·exact hx b n r
  ·rw [n] at r; cases r
 have hm:∀ b u,H b=some u->¬ Mut (some u)->b≠x:=fun b u q nm z=>by subst z; rw [q] at mu; exact nm mu
 refine ⟨fun b u q n _ _=>k b u (hb b n) q,fun b u q n _ _=>⟨u.slots,k b u (hb b n) q⟩,fun b u q n _=>by rw [aK (hx b n)]; exact n,fun b u q _=>?_,
  fun b xs q=>by rw [aK (hm b _ q fun z=>z)]; exact q,fun b u xs q=>by rw [aK (hm b _ q fun z=>z)]; exact q,fun b ps q=>⟨#[],by rw [aK (hm b _ q fun z=>z),q]; simp⟩⟩
 by_cases hbe:b=e
 ·subst hbe; exact heo
 ·exact ⟨u,k b u hbe q⟩
theorem Un.mono (u:Un fs ex H H1 h h1) (hs:∀ b∈fs,b∈fs') (hx:∀ b∈ex,b∈ex'):Un fs' ex' H H1 h h1 :=
 ⟨fun b ob q n hb he=>u.keep b ob q n (fun z=>hb (hs b z)) fun z=>he (hx b z),fun _ _ q n _ he=>u.any q n fun z=>he (hx _ z),fun b ob q n he=>u.free b ob q n fun z=>he (hx b z),fun b ob q he=>u.there b ob q fun z=>he (hx b z),u.tups,u.frzs,u.tbls⟩
end
def trk (h:Heap) (H:Hp):List Addr:=(List.range h.objs.size).filter fun a=>(H a).isSome
def vS (h:Heap) (H:Hp):Heap:=PySem.W.hideAll h (trk h H)
theorem aBv (h:Heap) (H:Hp):(vS h H).objs.size=h.objs.size:=PySem.W.hideAll_size _ _
theorem aCn (e:h.get? b=some o) (n:H b=none):(vS h H).get? b=some o :=
 PySem.W.hideAll_get _ e fun hm=>by
  have q:(H b).isSome=true:=(Jc.mp hm).2
  rw [n] at q; simp at q
theorem aDW (e:(vS h H).get? b=some o):h.get? b=some o/\H b=none:=by
 have e':h.get? b=some o:=PySem.W.of_hideAll (trk h H) e
 refine ⟨e',?_⟩
 cases q:H b with
 | none=>rfl
 | some x =>
  have hm:b∈trk h H:=Jc.mpr ⟨Js.mpr (Qo e'),by simp [q]⟩
  have z:(vS h H).get? b=none:=PySem.W.hideAll_none (trk h H) hm
  rw [z] at e; cases e
def aDX (g h:Heap) (L:Addr):List (Addr×Obj):=(List.range h.objs.size).filterMap fun a=>if a=L∨(g.get? a).isSome=true then none else (h.get? a).map fun o=>(a,o)
def jF (g h:Heap) (L d:Addr):List (Addr×Obj):=(aDX g h L).filter fun p=>decide (p.1≠d)
structure Mod (K:PySem.W.Frag) (mg:Str->Option Value) (base:Heap):Prop where
 kin:K.In base
 glob:base.Ns mainGlobals mg
 blt:∃ mb,base.Ns builtinsNs mb/\∀ x:Str,x ≠ "__name__" -> mb x=bootBuiltins x
 nolimit:base.NoLimit
 mods:∃ mm,base.Ns sysModules mm
structure Cx where
 prog:Program
 w:World
 K:PySem.W.Frag
 mg:Str->Option Value
 base:Heap
 A:Around
 N:List Str
 s₀:Shared
 H₀:Hp
 env:Env
 outer:List Env
 stack:List Env
 ex:List Addr
 fn:Str->Bool
 calm:Bool
 pn:List (Addr×Obj)
 xe:Value->Shared->Prop
end L2
variable {X:Cx}
namespace L2
open PySem PySem.Spec PyProof.Rows
def frs (l:List Env):List Addr:=l.filterMap (·.frame)
abbrev Cx.fs (X:Cx):List Addr:=frs X.outer
def Vis (sc:Scope) (x:Str):Prop:=sc.names.lookup x=some .local∨sc.names.lookup x=some .cell∨sc.names.lookup x=some .free
def Loc (sc:Scope) (x:Str):Prop:=sc.names.lookup x=some .local∨sc.names.lookup x=some .cell
def aFr (env:Env) (h:Heap) (m:Str->Option Value) (x:Str) (u:Value):Prop :=
 (env.kindOf x=some .local/\m x=some u)∨((env.kindOf x=some .cell∨env.kindOf x=some .free)/\∃ c,env.cells.lookup x=some c/\h.IsCell c (some u))
structure Cx.Ok (X:Cx):Prop where
 mod:Mod X.K X.mg X.base
 kind:X.env.scope.kind=.function
 glob:X.env.globals=mainGlobals
 blt:X.env.builtins=builtinsNs
 above:X.s₀.heap.objs.size<=X.env.locals
 inj:∀ x y c,X.env.cells.lookup x=some c->X.env.cells.lookup y=some c->x=y
 has:∀ x,(X.env.kindOf x=some .cell∨X.env.kindOf x=some .free)->∃ c,X.env.cells.lookup x=some c
 cab:∀ x c,X.fn x=true->X.env.cells.lookup x=some c->X.s₀.heap.objs.size<=c
 hd:X.calm=true->X.A.handled=none
 frames:X.A.frames=some X.stack
 stk:X.stack=X.outer∨(X.stack=X.env::X.outer/\X.env.frame=some X.env.locals)
 exf:∀ b∈X.ex,b≠X.env.locals/\∀ x c,X.env.cells.lookup x=some c->c≠b
 bs:∀ b o,X.base.get? b=some o->X.s₀.heap.get? b=some o/\X.H₀ b=none
 bsz:X.base.objs.size<=X.s₀.heap.objs.size
 noex:∀ b o,X.base.get? b=some o->b∉X.ex
 exfs:∀ b∈X.ex,b∉X.fs
 funs:X.s₀.heap.FunFrames X.base X.outer
 frf:∀ b∈X.fs,X.H₀ b=none
structure Inv (X:Cx) (pins:List (Addr×Obj)) (σ:List (Option V)) (H:Hp) (s:Shared):Prop where
 ok:X.Ok
 os:s.os=X.s₀.os
 bare:AllBare s.gens
 base:Un X.fs X.ex X.H₀ H X.s₀.heap s.heap
 loc:∃ m,s.heap.Ns X.env.locals m/\∀ (i:Nat) (x:Str) (v:V),X.N[i]?=some x->σ[i]?=some (some v)->Vis X.env.scope x->∃ u,bI v u/\aFr X.env s.heap m x u
 cell:∀ x c,X.env.cells.lookup x=some c->∃ v,s.heap.IsCell c v
 free:H X.env.locals=none
 freeC:∀ x c,X.env.cells.lookup x=some c->H c=none
 pin:∀ p∈X.pn++pins,s.heap.get? p.1=some p.2/\H p.1=none/\p.1≠X.env.locals/\p.1∉X.fs/\∀ v,p.2.data≠.cell v
 hok:HOk X.prog X.w H s.heap
 len:σ.length=X.N.length
section
variable {σ:List (Option V)}
theorem Cx.Ok.nofr (ok:X.Ok) (e:X.base.get? b=some o):b∉X.fs:=fun hb=>by
 have:=(ok.funs.mem hb).1
 rw [e] at this; cases this
theorem Inv.bs (I:Inv X pins σ H s):∀ b o,X.base.get? b=some o->s.heap.get? b=some o/\H b=none:=fun b o e =>
 ⟨I.base.keep b o (I.ok.bs b o e).1 (I.ok.bs b o e).2 (I.ok.nofr e) (I.ok.noex b o e),I.base.free b o (I.ok.bs b o e).1 (I.ok.bs b o e).2 (I.ok.noex b o e)⟩
theorem Inv.bk (I:Inv X pins σ H s):∀ b o,X.base.get? b=some o->s.heap.get? b=some o:=fun b o e=>(I.bs b o e).1
theorem Inv.mod (I:Inv X pins σ H s):Mod X.K X.mg X.base:=I.ok.mod
theorem Inv.kIn (I:Inv X pins σ H s):X.K.In s.heap:=I.ok.mod.kin.keeps I.bk
theorem Inv.nolimit (I:Inv X pins σ H s):s.heap.NoLimit:=I.ok.mod.nolimit.keeps I.bk
theorem Inv.fr (I:Inv X pins σ H s):∃ m,Fr X.base X.env.locals s.heap m :=
 let ⟨m,hn,_⟩:=I.loc
 ⟨m,hn,I.bk,Qu I.ok.bsz I.ok.above⟩
theorem Inv.lt (I:Inv X pins σ H s):X.env.locals < s.heap.objs.size:=let ⟨_,hn,_⟩:=I.loc; hn.lt
theorem Inv.sz (I:Inv X pins σ H s):X.s₀.heap.objs.size<=s.heap.objs.size:=Qu I.ok.above (Ze I.lt)
theorem Inv.nofs (I:Inv X pins σ H s) (h:s.heap.objs.size<=a):a∉X.fs:=fun hb=>by
 obtain ⟨_,o,ho,_⟩:=I.ok.funs.mem hb
 exact absurd (Ql (Qo ho) (Qu I.sz h)) (Qv _)
theorem Inv.cne (I:Inv X pins σ H s):∀ x c,X.env.cells.lookup x=some c->c≠X.env.locals:=fun x c e z=>by
 obtain ⟨v,o,ho,hd⟩:=I.cell x c e
 obtain ⟨m,⟨o',es,ep,ho',hd',_⟩,_⟩:=I.loc
 rw [z,ho'] at ho; cases ho; rw [hd'] at hd; cases hd
theorem Inv.funs (I:Inv X pins σ H s):s.heap.FunFrames X.base X.outer:=by
 have all:∀ (l:List Env),(∀ b∈frs l,b∈X.fs)->X.s₀.heap.FunFrames X.base l->s.heap.FunFrames X.base l:=by
  intro l
  induction l with
  | nil=>intro _ _; trivial
  | cons env r ih =>
   intro hs hl
   obtain ⟨hk,⟨L,o,hf,hn,ho,hd⟩,hr⟩:=hl
   have hL:L∈X.fs:=hs L (by unfold frs; rw [Zg,hf]; exact Qn)
   obtain ⟨sl,e⟩:=I.base.slot L o ho (I.ok.frf L hL) hL fun z=>I.ok.exfs L z hL
   exact ⟨hk,⟨L,_,hf,hn,e,hd⟩,ih (fun b hb=>hs b (by unfold frs; rw [Zg,hf]; exact Qs _ hb)) hr⟩
 exact all X.outer (fun _ hb=>hb) I.ok.funs
theorem Inv.stack (I:Inv X pins σ H s):s.heap.FunFrames X.base X.stack:=by
 rcases I.ok.stk with e | ⟨e,hf⟩
 ·rw [e]; exact I.funs
 ·rw [e]
  obtain ⟨m,hn,_⟩:=I.loc
  refine .cons (by rw [I.ok.kind]; decide) hf hn ?_ I.funs
  exact Heap.get?_none_of_le (Qu I.ok.bsz I.ok.above)
theorem Inv.stkSub (I:Inv X pins σ H s):∀ b∈frs X.stack,b∈X.env.locals::X.fs:=fun b hb=>by
 rcases I.ok.stk with e | ⟨e,hf⟩
 ·rw [e] at hb; exact Qs _ hb
 ·rw [e] at hb
  unfold frs at hb
  rw [Zg,hf] at hb
  exact hb
theorem Inv.stkFree (I:Inv X pins σ H s):∀ b∈frs X.stack,H b=none:=fun b hb=>by
 rcases Qj.mp (I.stkSub b hb) with e | hb
 ·rw [e]; exact I.free
 ·obtain ⟨_,o,ho,_⟩:=I.ok.funs.mem hb
  exact I.base.free b o ho (I.ok.frf b hb) fun z=>I.ok.exfs b z hb
theorem Inv.step {g':Array GenState} {d':Drawn} (I:Inv X pins σ H s) (hch:∀ b∈ch,(b∈X.ex∨X.s₀.heap.objs.size<=b)/\b≠X.env.locals/\(∀ x c,X.env.cells.lookup x=some c->c≠b)/\∀ p∈X.pn++pins,p.1≠b) (keep:∀ b o,b≠X.env.locals->b∉X.fs->b∉ch->s.heap.get? b=some o->H b=none->h'.get? b=some o) (slot:∀ b o,b≠X.env.locals->b∈X.fs->b∉ch->s.heap.get? b=some o->H b=none->∃ sl,h'.get? b=some { o with slots:=sl }) (free:∀ b o,b∉ch->s.heap.get? b=some o->H b=none->H' b=none) (there:∀ b o,b∉ch->s.heap.get? b=some o->∃ o',h'.get? b=some o') (tups:∀ b xs,H b=some (.tup xs)->H' b=some (.tup xs)) (frzs:∀ b o u,H b=some (.frz o u)->H' b=some (.frz o u)) (tbls:∀ b ps,H b=some (.tbl ps)->∃ more,H' b=some (.tbl (ps++more))) (ns:∀ m,s.heap.Ns X.env.locals m->h'.Ns X.env.locals m) (hok:HOk X.prog X.w H' h') (hg:AllBare g') :
  Inv X pins σ H' { s with heap:=h',gens:=g',drawn:=d',toks:=t' }:=by
 have neL:∀ b o,X.s₀.heap.get? b=some o->b≠X.env.locals:=fun b o e=>Jp (Ql (Qo e) I.ok.above)
 have neC:∀ b o,X.s₀.heap.get? b=some o->b∉X.ex->b∉ch:=fun b o e hx hb=>by
  rcases (hch b hb).1 with z | z
  ·exact hx z
  ·exact absurd (Ql (Qo e) z) (Qv _)
 have cellK:∀ x c,X.env.cells.lookup x=some c->∀ v,s.heap.IsCell c v->h'.IsCell c v:=fun x c e v ⟨o,ho,hd⟩=>by
  have nch:c∉ch:=fun z=>(hch c z).2.2.1 x c e rfl
  by_cases hc:c∈X.fs
  ·obtain ⟨sl,q⟩:=slot c o (I.cne x c e) hc nch ho (I.freeC x c e)
   exact ⟨_,q,hd⟩
  ·exact ⟨o,keep c o (I.cne x c e) hc nch ho (I.freeC x c e),hd⟩
 refine ⟨I.ok,I.os,hg,⟨fun b o e n hb hx=>?_,fun b o e n hb hx=>?_,fun b o e n hx=>?_,fun b o e hx=>?_,fun b xs e=>tups b xs (I.base.tups b xs e),fun b o xs e=>frzs b o xs (I.base.frzs b o xs e),fun b ps e=>?_⟩,?_,fun x c e=>?_,?_,fun x c e=>?_,fun p hp=>?_,hok,I.len⟩
 ·exact keep b o (neL b o e) hb (neC b o e hx) (I.base.keep b o e n hb hx) (I.base.free b o e n hx)
 ·obtain ⟨sl,e1⟩:=I.base.slot b o e n hb hx
  obtain ⟨sl',e2⟩:=slot b _ (neL b o e) hb (neC b o e hx) e1 (I.base.free b o e n hx)
  exact ⟨sl',e2⟩
 ·obtain ⟨o',e1⟩:=I.base.there b o e hx
  exact free b o' (neC b o e hx) e1 (I.base.free b o e n hx)
 ·obtain ⟨o',e1⟩:=I.base.there b o e hx
  exact there b o' (neC b o e hx) e1
 ·obtain ⟨m1,e1⟩:=I.base.tbls b ps e
  obtain ⟨m2,e2⟩:=tbls b _ e1
  exact ⟨m1++m2,by rw [e2,Array.append_assoc]⟩
 ·obtain ⟨m,hn,hl⟩:=I.loc
  refine ⟨m,ns m hn,fun i x v e1 e2 e3=>?_⟩
  obtain ⟨u,r,l⟩:=hl i x v e1 e2 e3
  refine ⟨u,r,?_⟩
  rcases l with l | ⟨k,c,e,z⟩
  ·exact .inl l
  ·exact .inr ⟨k,c,e,cellK x c e _ z⟩
 ·obtain ⟨v,z⟩:=I.cell x c e
  exact ⟨v,cellK x c e v z⟩
 ·obtain ⟨m,⟨o,_,_,ho,_⟩,_⟩:=I.loc
  exact free _ o (fun z=>(hch _ z).2.1 rfl) ho I.free
 ·obtain ⟨v,o,ho,hd⟩:=I.cell x c e
  exact free c o (fun z=>(hch c z).2.2.1 x c e rfl) ho (I.freeC x c e)
 ·obtain ⟨e,n,ne,nf,d⟩:=I.pin p hp
  have nch:p.1∉ch:=fun z=>(hch p.1 z).2.2.2 p hp rfl
  exact ⟨keep p.1 p.2 ne nf nch e n,free p.1 p.2 nch e n,ne,nf,d⟩
theorem Inv.un (I:Inv X pins σ H s) (u:Un X.fs [] H H' s.heap h') (hok:HOk X.prog X.w H' h'):Inv X pins σ H' { s with heap:=h',toks:=t' }:=by
 obtain ⟨m,⟨o,es,ep,ho,r⟩,_⟩:=id I.loc
 obtain ⟨sl,hL⟩:=u.any ho I.free (by simp)
 exact I.step (g':=s.gens) (d':=s.drawn) (ch:=[]) (fun _ z=>nomatch z) (fun b o _ hb _ e n=>u.keep b o e n hb (by simp)) (fun b o _ hb _ e n=>u.slot b o e n hb (by simp)) (fun b o _ e n=>u.free b o e n (by simp)) (fun b o _ e=>u.there b o e (by simp)) u.tups u.frzs u.tbls (fun m' hm=>by
  obtain ⟨o',es',ep',ho',r'⟩:=hm
  rw [ho] at ho'; cases ho'
  exact ⟨_,es',ep',hL,r'⟩) hok I.bare
theorem Inv.call {g':Array GenState} {d':Drawn} (I:Inv X pins σ H s) (u:Un (frs X.stack) ch H H' s.heap h') (hok:HOk X.prog X.w H' h') (hg:AllBare g') (hch:∀ b∈ch,(b∈X.ex∨X.s₀.heap.objs.size<=b)/\b≠X.env.locals/\(∀ x c,X.env.cells.lookup x=some c->c≠b)/\∀ p∈X.pn++pins,p.1≠b) :
  Inv X pins σ H' { s with heap:=h',gens:=g',drawn:=d',toks:=t' }:=by
 obtain ⟨m,⟨o,es,ep,ho,r⟩,_⟩:=id I.loc
 obtain ⟨sl,hL⟩:=u.any ho I.free fun z=>(hch _ z).2.1 rfl
 exact I.step (ch:=ch) hch (fun b o hL hb hc e n=>u.keep b o e n (fun z=>(Qj.mp (I.stkSub b z)).elim hL hb) hc) (fun b o _ _ hc e n=>u.any e n hc) (fun b o hc e n=>u.free b o e n hc) (fun b o hc e=>u.there b o e hc) u.tups u.frzs u.tbls (fun m' hm=>by
  obtain ⟨o',es',ep',ho',r'⟩:=hm
  rw [ho] at ho'; cases ho'
  exact ⟨_,es',ep',hL,r'⟩) hok hg
theorem Inv.turned (I:Inv X pins σ H s) (k:∀ b o,b≠it->s.heap.get? b=some o->h'.get? b=some o) (hn:H it=none) (hL:it≠X.env.locals) (h1:it∈X.ex∨X.s₀.heap.objs.size<=it) (h2:∀ x c,X.env.cells.lookup x=some c->c≠it) (h3:∀ p∈X.pn++pins,p.1≠it):Inv X pins σ H { s with heap:=h',toks:=t' }:=by
 have nit:∀ b u,H b=some u->b≠it:=fun b u e z=>by rw [z,hn] at e; cases e
 refine I.step (g':=s.gens) (d':=s.drawn) (ch:=[it]) (fun b hb=>?_) (fun b o _ _ hc e _=>k b o (fun z=>hc (by simp [z])) e) (fun b o _ _ hc e _=>⟨o.slots,k b o (fun z=>hc (by simp [z])) e⟩) (fun _ _ _ _ n=>n)
  (fun b o hc e=>⟨o,k b o (fun z=>hc (by simp [z])) e⟩) (fun _ _ e=>e) (fun _ _ _ e=>e) (fun b ps e=>⟨#[],by rw [e]; simp⟩) (fun m hm=>?_) (fun b u e=>?_) I.bare
 ·have e:b=it:=by simpa using hb
  subst e
  exact ⟨h1,hL,h2,h3⟩
 ·obtain ⟨o,es,ep,ho,r⟩:=hm
  exact ⟨o,es,ep,k _ o (Ne.symm hL) ho,r⟩
 ·refine (I.hok b u e).stay (fun c v hc q=>k c v ?_ q) (fun _ q=>q) fun _ _ q=>q
  rcases hc with z | z
  ·rw [z]; exact nit b u e
  ·exact nit c _ z
theorem Inv.tok (I:Inv X pins σ H s) (t:Nat):Inv X pins σ H { s with toks:=t }:=I.un (h':=s.heap) (t':=t) Un.refl I.hok
theorem Inv.kept (I:Inv X pins σ H s) (k:∀ b u,s.heap.get? b=some u->h'.get? b=some u):Inv X pins σ H { s with heap:=h',toks:=t' }:=I.un (Un.kept k) (I.hok.kept k)
theorem Inv.laid {o:HO} (I:Inv X pins σ H s) (k:∀ b u,s.heap.get? b=some u->h'.get? b=some u) (hp:s.heap.objs.size<=a) (new:cO X.prog X.w (upd H a o) h' a o) :
  Inv X pins σ (upd H a o) { s with heap:=h',toks:=t' }:=I.un (Un.laid k hp (I.hok.fresh hp)) (I.hok.laid k hp new)
theorem Inv.write {x e:Addr} {o:HO} (I:Inv X pins σ H s) (mu:Mut (H x)) (he:e=x∨H e=some (.own x)) (k:∀ b u,b≠e->s.heap.get? b=some u->h'.get? b=some u) (heo:∃ u,h'.get? e=some u) (new:cO X.prog X.w (upd H x o) h' x o):Inv X pins σ (upd H x o) { s with heap:=h',toks:=t' }:=I.un (Un.write mu he k heo) (I.hok.write mu he k heo new)
theorem Inv.pins_of {pins':List (Addr×Obj)} (I:Inv X pins σ H s) (h:∀ p∈pins',s.heap.get? p.1=some p.2/\H p.1=none/\p.1≠X.env.locals/\p.1∉X.fs/\∀ v,p.2.data≠.cell v):Inv X pins' σ H s :=
 ⟨I.ok,I.os,I.bare,I.base,I.loc,I.cell,I.free,I.freeC,fun p hp=>(Jg.mp hp).elim (fun z=>I.pin p (Ju _ z)) (h p),I.hok,I.len⟩
theorem xT (hN:N.Nodup) {i:Nat} (a:N[i]?=some x) (b:N[j]?=some x):i=j:=by
 obtain ⟨h1,e1⟩:=Qd.mp a
 obtain ⟨h2,e2⟩:=Qd.mp b
 exact (List.getElem_inj hN).mp (e1.trans e2.symm)
theorem pS {i:Nat} {Q:Unit->Shared->Prop} (I:Inv X pins σ H s) (hN:X.N.Nodup) (hi:X.N[i]?=some x) (hx:Loc X.env.scope x) (r:bI v u) (h:∀ s',Inv X pins (σ.set i (some v)) H s'->(∃ a,Heap.SameBut a s.heap s'.heap/\(a=X.env.locals∨X.env.cells.lookup x=some a))->Q () s') (hf:X.fn x=true∨X.env.scope.names.lookup x=some .local:=by first | exact .inl rfl | exact .inr rfl | assumption):wpAny M A (storeName X.env x u) Q E s:=by
 obtain ⟨m,hn,hl⟩:=id I.loc
 have hcls:(X.env.scope.kind==.class || (X.env.scope.kind==.module && X.env.locals !=X.env.globals))=false:=by rw [I.ok.kind]; rfl
 have hiσ:i < σ.length:=by rw [I.len]; exact (Qd.mp hi).1
 have cne:=I.cne
 have tracked:∀ {a:Addr} {h':Heap},(∃ o,s.heap.get? a=some o/\H a=none)->Heap.SameBut a s.heap h'->HOk X.prog X.w H h':=fun {a h'} ha hs b ob e=>by
  obtain ⟨_,_,hfree⟩:=ha
  refine (I.hok b ob e).stay (fun c w' hc q=>(hs.2 c ?_).trans q) (fun _ q=>q) fun _ _ q=>q
  rintro rfl
  rcases hc with rfl | hc
  ·rw [hfree] at e; cases e
  ·rw [hfree] at hc; cases hc
 rcases hx with hk | hk
 ·refine wpAny_storeName_local hk hn (fun h' hn' hs=>?_) hcls
  obtain ⟨oL,_,_,hoL,_⟩:=id hn
  refine h _ ⟨I.ok,I.os,I.bare,⟨fun b o e n hb hx=>?_,fun b o e n hb hx=>?_,I.base.free,fun b o e hx=>?_,I.base.tups,I.base.frzs,I.base.tbls⟩,⟨_,hn',fun j y v' e1 e2 e3=>?_⟩,fun y c e=>?_,I.free,I.freeC,fun p hp=>?_,tracked ⟨oL,hoL,I.free⟩ hs,by simpa using I.len⟩ ⟨_,hs,.inl rfl⟩
  ·exact (hs.2 b (Jp (Ql (Qo e) I.ok.above))).trans (I.base.keep b o e n hb hx)
  ·obtain ⟨sl,e1⟩:=I.base.slot b o e n hb hx
   exact ⟨sl,(hs.2 b (Jp (Ql (Qo e) I.ok.above))).trans e1⟩
  ·obtain ⟨o',e1⟩:=I.base.there b o e hx
   exact ⟨o',(hs.2 b (Jp (Ql (Qo e) I.ok.above))).trans e1⟩
  ·by_cases hj:j=i
   ·subst hj
    rw [hi] at e1; cases e1
    rw [Wf hiσ] at e2
    cases e2
    exact ⟨u,r,.inl ⟨hk,by simp⟩⟩
   ·rw [Wi (Ne.symm hj)] at e2
    obtain ⟨u',r',q⟩:=hl j y v' e1 e2 e3
    refine ⟨u',r',?_⟩
    rcases q with ⟨k,e⟩ | ⟨k,c,e,z⟩
    ·refine .inl ⟨k,?_⟩
     have:y≠x:=fun e=>hj (xT hN e1 (e ▸ hi))
     simp [this,e]
    ·exact .inr ⟨k,c,e,z.sameBut hs (cne y c e)⟩
  ·obtain ⟨w',z⟩:=I.cell y c e
   exact ⟨w',z.sameBut hs (cne y c e)⟩
  ·obtain ⟨e,n,ne,nf,d⟩:=I.pin p hp
   exact ⟨(hs.2 p.1 ne).trans e,n,ne,nf,d⟩
 ·have hfn:X.fn x=true:=by
   rcases hf with z | z
   ·exact z
   ·rw [z] at hk; cases hk
  obtain ⟨c,hc⟩:=I.ok.has x (.inl hk)
  obtain ⟨w',z⟩:=I.cell x c hc
  refine wpAny_storeName_cell I.ok.kind hk hc z (fun h' hc' hs=>?_)
  obtain ⟨oc,hoc,hocd⟩:=id z
  refine h { s with heap:=h' } ⟨I.ok,I.os,I.bare,⟨fun b o e n hb hx=>?_,fun b o e n hb hx=>?_,I.base.free,fun b o e hx=>?_,I.base.tups,I.base.frzs,I.base.tbls⟩,⟨m,hn.sameBut hs (Ne.symm (cne x c hc)),fun j y v' e1 e2 e3=>?_⟩,fun y c' e=>?_,I.free,I.freeC,fun p hp=>?_,tracked ⟨oc,hoc,I.freeC x c hc⟩ hs,by simpa using I.len⟩ ⟨c,hs,.inr hc⟩
  ·exact (hs.2 b (Jp (Ql (Qo e) (I.ok.cab x c hfn hc)))).trans (I.base.keep b o e n hb hx)
  ·obtain ⟨sl,e1⟩:=I.base.slot b o e n hb hx
   exact ⟨sl,(hs.2 b (Jp (Ql (Qo e) (I.ok.cab x c hfn hc)))).trans e1⟩
  ·obtain ⟨o',e1⟩:=I.base.there b o e hx
   exact ⟨o',(hs.2 b (Jp (Ql (Qo e) (I.ok.cab x c hfn hc)))).trans e1⟩
  ·by_cases hj:j=i
   ·subst hj
    rw [hi] at e1; cases e1
    rw [Wf hiσ] at e2
    cases e2
    exact ⟨u,r,.inr ⟨.inl hk,c,hc,hc'⟩⟩
   ·rw [Wi (Ne.symm hj)] at e2
    obtain ⟨u',r',q⟩:=hl j y v' e1 e2 e3
    refine ⟨u',r',?_⟩
    rcases q with q | ⟨k,c',e,z'⟩
    ·exact .inl q
    ·refine .inr ⟨k,c',e,z'.sameBut hs ?_⟩
     rintro rfl
     exact hj (xT hN e1 (I.ok.inj _ _ _ e hc ▸ hi))
  ·by_cases hcc:c'=c
   ·subst hcc; exact ⟨_,hc'⟩
   ·obtain ⟨w2,z2⟩:=I.cell y c' e
    exact ⟨w2,z2.sameBut hs hcc⟩
  ·obtain ⟨e,n,ne,nf,d⟩:=I.pin p hp
   refine ⟨(hs.2 p.1 ?_).trans e,n,ne,nf,d⟩
   intro q
   rw [q,hoc] at e
   have q':oc=p.2:=Option.some.inj e
   exact d w' (by rw [<- q']; exact hocd)
theorem oI {i:Nat} {Q:Unit->Shared->Prop} (I:Inv X pins σ H s) (hN:X.N.Nodup) (hi:X.N[i]?=some x) (hx:Loc X.env.scope x) (r:bI v u) (h:∀ s',Inv X pins (σ.set i (some v)) H s'->Q () s') (hf:X.fn x=true∨X.env.scope.names.lookup x=some .local:=by first | exact .inl rfl | exact .inr rfl | assumption):wpAny M A (storeName X.env x u) Q E s :=
 pS I hN hi hx r (fun s' I' _=>h s' I') hf
theorem Inv.call' (I:Inv X pins σ H s) (ho:s'.os=s.os) (u:Un (frs X.stack) ch H H' s.heap s'.heap) (hok:HOk X.prog X.w H' s'.heap) (hg:AllBare s'.gens) (hch:∀ b∈ch,(b∈X.ex∨X.s₀.heap.objs.size<=b)/\b≠X.env.locals/\(∀ x c,X.env.cells.lookup x=some c->c≠b)/\∀ p∈X.pn++pins,p.1≠b):Inv X pins σ H' s':=by
 obtain ⟨h',g',d',t',o'⟩:=s'
 have e:o'=s.os:=ho
 subst e
 exact I.call (g':=g') (t':=t') (d':=d') u hok hg hch
end
abbrev XK:=Value->Option Addr->Hp->Prop
abbrev St:=List (Option V)
abbrev VK:=V->Hp->Prop
abbrev TE:=St->Hp->VK->Prop
end L2
variable {ta tb te to tl tv ts td:TE}
namespace L2
open PySem PySem.Spec PyProof.Rows
abbrev TT:=St->Hp->(Bool->Hp->Prop)->Prop
end L2
variable {tt:TT}
namespace L2
open PySem PySem.Spec PyProof.Rows
abbrev TA:=St->Hp->(List V->Hp->Prop)->Prop
end L2
variable {tr:TA}
namespace L2
open PySem PySem.Spec PyProof.Rows
structure Ends where
 nx:St->Hp->Prop
 rt:VK
 bk:St->Hp->Prop:=fun _ _=>False
 ct:St->Hp->Prop:=fun _ _=>False
end L2
variable {D:Ends}
namespace L2
open PySem PySem.Spec PyProof.Rows
abbrev TS:=Ends->St->Hp->Prop
def EP (X:Cx) (pins:List (Addr×Obj)) (σ:St) (Q:VK) (u:Value) (s':Shared):Prop:=∃ v H',Inv X pins σ H' s'/\bI v u/\Q v H'
def TP (X:Cx) (pins:List (Addr×Obj)) (σ:St) (Q:Bool->Hp->Prop) (b:Bool) (s':Shared):Prop:=∃ H',Inv X pins σ H' s'/\Q b H'
def AP (X:Cx) (pins:List (Addr×Obj)) (σ:St) (Q:List V->Hp->Prop) (us:List Value) (s':Shared):Prop:=∃ vs H',Inv X pins σ H' s'/\bJ vs us/\Q vs H'
def SP (X:Cx) (pins:List (Addr×Obj)) (D:Ends) (f:Flow) (s':Shared):Prop :=
 match f with
 | .next=>∃ σ' H',Inv X pins σ' H' s'/\D.nx σ' H'
 | .brk=>∃ σ' H',Inv X pins σ' H' s'/\D.bk σ' H'
 | .cont=>∃ σ' H',Inv X pins σ' H' s'/\D.ct σ' H'
 | .ret u=>∃ v σ' H',Inv X pins σ' H' s'/\bI v u/\D.rt v H'
def PE (X:Cx) (e:Expr) (t:TE):Prop :=
 ∀ (pins:List (Addr×Obj)) (s:Shared) (σ:St) (H:Hp) (Q:VK),Inv X pins σ H s->t σ H Q->wpAny (model X.prog X.w) X.A (eval e X.env) (EP X pins σ Q) X.xe s
def PT (X:Cx) (e:Expr) (t:TT):Prop :=
 ∀ (pins:List (Addr×Obj)) (s:Shared) (σ:St) (H:Hp) (Q:Bool->Hp->Prop),Inv X pins σ H s->t σ H Q->wpAny (model X.prog X.w) X.A (isTrue e X.env (eval e X.env)) (TP X pins σ Q) X.xe s
def PW (X:Cx) (e:Expr) (t:TT):Prop :=
 ∀ (whole:Sem Value) (pins:List (Addr×Obj)) (s:Shared) (σ:St) (H:Hp) (Q:Bool->Hp->Prop),Inv X pins σ H s->t σ H Q->wpAny (model X.prog X.w) X.A (isTrue e X.env whole) (TP X pins σ Q) X.xe s
theorem PW.pt {t:TT} (h:PW X e t):PT X e t:=h _
def PA (X:Cx) (es:List Expr) (t:TA):Prop :=
 ∀ (pos:Pos) (pins:List (Addr×Obj)) (s:Shared) (σ:St) (H:Hp) (Q:List V->Hp->Prop),Inv X pins σ H s->t σ H Q->wpAny (model X.prog X.w) X.A (spliced (backTo pos (starEach es X.env))) (AP X pins σ Q) X.xe s
def PS (X:Cx) (st:Stmt) (t:TS):Prop :=
 ∀ (pins:List (Addr×Obj)) (s:Shared) (σ:St) (H:Hp) (D:Ends),Inv X pins σ H s->t D σ H->wpAny (model X.prog X.w) X.A (exec st X.env) (SP X pins D) X.xe s
def PSs (X:Cx) (st:List Stmt) (t:TS):Prop :=
 ∀ (pins:List (Addr×Obj)) (s:Shared) (σ:St) (H:Hp) (D:Ends),Inv X pins σ H s->t D σ H->wpAny (model X.prog X.w) X.A (execs st X.env) (SP X pins D) X.xe s
theorem thn {t:Sem α} {Q Q':α->Shared->Prop} (h:wpAny M A t Q E s) (hQ:∀ a s,Q a s->Q' a s):wpAny M A t Q' E s:=wpAny_mono h hQ fun _ _ x=>x
section
def uH (i:Nat):TE:=fun σ H Q=>∃ v,σ[i]?=some (some v)/\Q v H
abbrev tC (v:V):TE:=fun _ H Q=>Q v H
theorem aFs {i:Nat} {pos:Pos} (hN:X.N[i]?=some x) (hv:Vis X.env.scope x) (hd:(x==("__debug__" : Str))=false:=by decide) (hcd:(x==("__classdict__" : Str))=false:=by decide):PE X (.Name x pos) (uH i):=by
 intro pins s σ H Q I h
 obtain ⟨v,e,h⟩:=h
 obtain ⟨m,hn,hl⟩:=I.loc
 obtain ⟨u,r,l⟩:=hl i x v hN e hv
 have fin:EP X pins σ Q u s:=⟨v,H,I,r,h⟩
 rcases l with ⟨hk,hm⟩ | ⟨hk,c,hc,hcell⟩
 ·exact wpAny_Name (wpAny_loadName_local I.ok.kind hk hn hm fin) hd
 ·rcases hk with hk | hk
  ·exact wpAny_Name (wpAny_loadName_cell I.ok.kind hk hc hcell fin) hd
  ·exact wpAny_Name (wpAny_loadName_free I.ok.kind hk hc hcell fin hcd) hd
theorem aG {i j pos}:PE X (.Constant (.int i) j pos) (tC (.int i)):=fun _ _ _ H _ I h=>wpAny_Constant_int ⟨.int i,H,I.tok _,⟨_,rfl⟩,h⟩
theorem dG {b j pos}:PE X (.Constant (.bool b) j pos) (tC (.bl b)):=fun _ _ _ H _ I h=>Constant_bool ⟨.bl b,H,I,rfl,h⟩
theorem vT {j pos}:PE X (.Constant .none j pos) (tC .non):=fun _ _ _ H _ I h=>Constant_none ⟨.non,H,I,rfl,h⟩
theorem aFt {x j pos}:PE X (.Constant (.str x) j pos) (tC (.str x)):=fun _ _ _ H _ I h=>Calls.Constant_str ⟨.str x,H,I.tok _,⟨_,rfl⟩,h⟩
def Gl (X:Cx) (x:Str):Prop:=X.env.kindOf x=some .globalImplicit
theorem aAG {σ:St} {pos:Pos} (I:Inv X pins σ H s) (hg:Gl X x) (hm:X.mg x=some u) (h:Q u s) (hd:(x==("__debug__" : Str))=false:=by decide):wpAny (model X.prog X.w) X.A (eval (.Name x pos) X.env) Q E s :=
 Calls.Name_function_global I.ok.kind hg (Calls.loadGlobal_global (by rw [I.ok.glob]; exact I.mod.glob.keeps I.bk) hm h) hd
theorem jN {σ:St} {pos:Pos} (I:Inv X pins σ H s) (hg:Gl X x) (hm:X.mg x=none) (hv:bootBuiltins x=some u) (h:Q u s) (hn:x ≠ "__name__" := by decide) (hd:(x==("__debug__" : Str))=false:=by decide):wpAny (model X.prog X.w) X.A (eval (.Name x pos) X.env) Q E s:=by
 obtain ⟨mb,h1,h2⟩:=I.mod.blt
 exact Calls.Name_function_global I.ok.kind hg (Calls.loadGlobal_builtin (by rw [I.ok.glob]; exact I.mod.glob.keeps I.bk) hm (by rw [I.ok.blt]; exact h1.keeps I.bk) ((h2 x hn).trans hv) h) hd
theorem mY {pos:Pos} (hg:Gl X x) (hm:X.mg x=some u) (r:bI v u) (hd:(x==("__debug__" : Str))=false:=by decide):PE X (.Name x pos) (tC v) :=
 fun _ _ _ H _ I h=>aAG I hg hm ⟨v,H,I,r,h⟩ hd
theorem eW {pos:Pos} (hg:Gl X x) (hm:X.mg x=none) (hv:bootBuiltins x=some u) (r:bI v u) (hn:x ≠ "__name__" := by decide) (hd:(x==("__debug__" : Str))=false:=by decide):PE X (.Name x pos) (tC v) :=
 fun _ _ _ H _ I h=>jN I hg hm hv ⟨v,H,I,r,h⟩ hn hd
variable {a b:Expr} {pos:Pos}
def PC (X:Cx) (op:CmpOp) (a b:Expr) (t:TE):Prop :=
 ∀ (pins:List (Addr×Obj)) (s:Shared) (σ:St) (H:Hp) (Q:VK),Inv X pins σ H s->t σ H Q ->
  wpAny (model X.prog X.w) X.A (eval a X.env) (fun v s₁=>wpAny (model X.prog X.w) X.A (eval b X.env) (fun u s₂=>wpAny (model X.prog X.w) X.A (compareOp op v u) (EP X pins σ Q) X.xe s₂) X.xe s₁) X.xe s
theorem aCo (b:Expr) (h:op≠.In) (h2:op≠.NotIn):behindInMarks op b=false:=by
 have e1:(op==CmpOp.In)=false:=by cases op <;> first | rfl | exact absurd rfl h
 have e2:(op==CmpOp.NotIn)=false:=by cases op <;> first | rfl | exact absurd rfl h2
 cases b <;> simp [behindInMarks,e1,e2]
def aGq (ta:TE):TE:=fun σ H Q=>ta σ H fun x H1=>Q (.bl (!decide (x=.non))) H1
theorem bI.none_iff {x:V} {v:Value} (r:bI x v):(v==Value.none)=decide (x=.non):=by
 cases x with
 | non=>cases r; rfl
 | bl _=>cases r; rfl
 | int _=>obtain ⟨t,rfl⟩:=r; rfl
 | str _=>obtain ⟨t,rfl⟩:=r; rfl
 | byt _=>obtain ⟨t,rfl⟩:=r; rfl
 | flt _=>obtain ⟨t,rfl⟩:=r; rfl
 | ref _=>cases r; rfl
 | ty _=>cases r; rfl
theorem aDY {j pos'} (ha:PE X a ta):PC X .IsNot a (.Constant .none j pos') (aGq ta):=by
 intro pins s σ H Q I h
 refine thn (ha pins s σ H _ I h) fun v s1 hx9=>?_
 obtain ⟨x,H1,I1,r1,q1⟩:=hx9
 exact Constant_none (isnot_none_gen ⟨.bl _,H1,I1,by rw [r1.none_iff]; rfl,q1⟩)
def tB (t:TE):TT:=fun σ H Q=>t σ H fun x H1=>∃ c,x=.bl c/\Q c H1
theorem aCp {t:TE} (h:PC X op a b t) (h1:behindInMarks op b=false:=by first | exact aCo _ (by decide) (by decide) | rfl):PT X (.Compare a [op] [b] pos) (tB t):=by
 intro pins s σ H Q I hw
 refine wpAny_isTrue_Compare1 (thn (h pins s σ H _ I hw) fun v s1 h1=>thn h1 fun u s2 h2=>thn h2 fun c s3 hx9=>?_) h1
 obtain ⟨x,H1,I1,r1,q1⟩:=hx9
 obtain ⟨d,rfl,q⟩:=q1
 cases r1
 exact wpAny_truthy_bool ⟨H1,I1,q⟩
theorem cL {t:TE} (h:PE X e t) (he:∀ whole,isTrue e X.env whole=(do let v<-whole; standAt e.pos; holding [v] (truthy v)):=by intro _; rfl):PT X e (tB t):=by
 intro pins s σ H Q I hw
 refine isTrue_plain (thn (h pins s σ H _ I hw) fun v s1 hx9=>?_) (he _)
 obtain ⟨x,H1,I1,r1,q1⟩:=hx9
 obtain ⟨d,rfl,q⟩:=q1
 cases r1
 exact wpAny_truthy_bool ⟨H1,I1,q⟩
variable {tA tB':TT} {jF:List Expr}
def aHc (t u:TT):TT:=fun σ H Q=>t σ H fun c H1=>if c=true then u σ H1 Q else Q false H1
def tOr (t u:TT):TT:=fun σ H Q=>t σ H fun c H1=>if c=true then Q true H1 else u σ H1 Q
def aHd (t:TT):TT:=fun σ H Q=>t σ H fun c H1=>Q (!c) H1
theorem vU (ha:PT X a tA):PW X (.BoolOp .And [a] pos) tA:=by
 intro wh pins s σ H Q I h
 refine isTrue_and (thn (ha pins s σ H Q I h) fun c s1 e=>?_)
 cases c with
 | true=>exact isTrue_and_nil e
 | false=>exact e
theorem jA (ha:PT X a tA):PW X (.BoolOp .Or [a] pos) tA:=by
 intro wh pins s σ H Q I h
 refine isTrue_or (thn (ha pins s σ H Q I h) fun c s1 e=>?_)
 cases c with
 | false=>exact isTrue_or_nil e
 | true=>exact e
theorem zY (ha:PT X a tA) (hb:PW X (.BoolOp .And (b::jF) pos) tB'):PW X (.BoolOp .And (a::b::jF) pos) (aHc tA tB'):=by
 intro wh pins s σ H Q I h
 refine isTrue_and (thn (ha pins s σ H _ I h) fun c s1 hx9=>?_)
 obtain ⟨H1,I1,q1⟩:=hx9
 cases c with
 | true=>exact hb wh pins s1 σ H1 Q I1 q1
 | false=>exact ⟨H1,I1,q1⟩
theorem iS (ha:PT X a tA) (hb:PW X (.BoolOp .Or (b::jF) pos) tB'):PW X (.BoolOp .Or (a::b::jF) pos) (tOr tA tB'):=by
 intro wh pins s σ H Q I h
 refine isTrue_or (thn (ha pins s σ H _ I h) fun c s1 hx9=>?_)
 obtain ⟨H1,I1,q1⟩:=hx9
 cases c with
 | true=>exact ⟨H1,I1,q1⟩
 | false=>exact hb wh pins s1 σ H1 Q I1 q1
theorem dJ (ha:PT X a tA):PT X (.UnaryOp .Not a pos) (aHd tA):=by
 intro pins s σ H Q I h
 exact isTrue_not (ha pins s σ H (fun c H1=>Q (!c) H1) I h)
def aGr (ta tb:TE):TE:=fun σ H Q=>ta σ H fun x H1=>∃ c,x=.bl c/\if c=true then tb σ H1 Q else Q (.bl false) H1
def aGs (ta:TE):TE:=fun σ H Q=>ta σ H fun x H1=>∃ c,x=.bl c/\Q (.bl (!c)) H1
theorem lZ {op} {t:TE} (h:PE X a t):PE X (.BoolOp op [a] pos) t:=fun pins s σ H Q I hw=>BoolOp_one (h pins s σ H Q I hw)
theorem lC (ha:PE X a ta) (hb:PE X (.BoolOp .And (b::jF) pos) tb):PE X (.BoolOp .And (a::b::jF) pos) (aGr ta tb):=by
 intro pins s σ H Q I h
 refine BoolOp_and (thn (ha pins s σ H _ I h) fun v s1 hx9=>?_)
 obtain ⟨x,H1,I1,r1,q1⟩:=hx9
 obtain ⟨c,rfl,q1⟩:=q1
 cases r1
 refine wpAny_truthy_bool ?_
 cases c with
 | true=>exact hb pins s1 σ H1 Q I1 q1
 | false=>exact ⟨.bl false,H1,I1,rfl,q1⟩
theorem aCq (ha:PE X a ta):PE X (.UnaryOp .Not a pos) (aGs ta):=by
 intro pins s σ H Q I h
 refine UnaryOp_ (thn (ha pins s σ H _ I h) fun v s1 hx9=>?_)
 obtain ⟨x,H1,I1,r1,q1⟩:=hx9
 obtain ⟨c,rfl,q1⟩:=q1
 cases r1
 exact not_of (wpAny_truthy_bool ⟨.bl (!c),H1,I1,rfl,q1⟩)
end
def SqL (K:PySem.W.Frag) (H:Hp) (a:Addr) (xs:List V):Prop :=
 Rd H a (.lst xs) ∨
  ∃ (o:Obj) (its:Array Value) (n:Nat),K.lookup a=some o/\o.cls=.type "list" /\ o.dict=none/\o.data=.seq its n/\its.size<=sizeLine/\bJ xs its.toList
def SqT (K:PySem.W.Frag) (H:Hp) (a:Addr) (xs:List V):Prop :=
 Rd H a (.tup xs) ∨
  ∃ (o:Obj) (its:Array Value) (n:Nat),K.lookup a=some o/\o.cls=.type "tuple" /\ o.dict=none/\o.data=.seq its n/\its.size<=sizeLine/\bJ xs its.toList
def aHe:Value->Option V
 | .none=>some .non
 | .bool b=>some (.bl b)
 | .int i _=>some (.int i)
 | .str x _=>some (.str x)
 | .bytes b _=>some (.byt b)
 | .float b _=>some (.flt b)
 | .ref a=>some (.ref a)
 | .type n=>some (.ty n)
 | _=>none
theorem bI.abs {x:V} (r:bI x u):aHe u=some x:=by
 cases x with
 | non=>cases r; rfl
 | bl _=>cases r; rfl
 | int _=>obtain ⟨t,rfl⟩:=r; rfl
 | str _=>obtain ⟨t,rfl⟩:=r; rfl
 | byt _=>obtain ⟨t,rfl⟩:=r; rfl
 | flt _=>obtain ⟨t,rfl⟩:=r; rfl
 | ref _=>cases r; rfl
 | ty _=>cases r; rfl
theorem bI.inj {x:V} (r:bI x u) (q:bI y u):x=y:=Option.some.inj (r.abs.symm.trans q.abs)
theorem bJ.inj:∀ {xs ys:List V} {us:List Value},bJ xs us->bJ ys us->xs=ys
 := by
 intro xs ys us h
 induction h generalizing ys with
 | nil=>intro q; cases q; rfl
 | cons r t ih=>intro q; cases q with | cons r' t'=>rw [r.inj r',ih t']
section
variable {σ:St}
theorem SqL.of (h:H a=some (.lst xs)):SqL K H a xs:=.inl (.inl h)
theorem SqT.of (h:H a=some (.tup xs)):SqT K H a xs:=.inl (.inl h)
theorem Inv.list (I:Inv X pins σ H s) (h:SqL X.K H a xs):∃ its:List Value,bJ xs its/\PlainL s.heap a its.toArray/\xs.length<=sizeLine:=by
 rcases h with h | ⟨o,its,n,hk,hc,hd,hs,hz,r⟩
 ·obtain ⟨z,its,n,r,e⟩:=h.ok I.hok
  exact ⟨its,r,⟨_,n,e,rfl,rfl,rfl⟩,z⟩
 ·refine ⟨its.toList,r,⟨o,n,I.kIn a o hk,hc,hd,by simpa using hs⟩,?_⟩
  have e:=r.length
  simp only [Array.length_toList] at e
  omega
theorem Inv.tuple (I:Inv X pins σ H s) (h:SqT X.K H a xs):∃ its:List Value,bJ xs its/\IsTup s.heap a its.toArray/\xs.length<=sizeLine:=by
 rcases h with h | ⟨o,its,n,hk,hc,_,hs,hz,r⟩
 ·obtain ⟨z,its,n,r,p⟩:=h.ok I.hok
  exact ⟨its,r,⟨_,p,rfl,n,rfl⟩,z⟩
 ·refine ⟨its.toList,r,⟨o,I.kIn a o hk,hc,n,by simpa using hs⟩,?_⟩
  have e:=r.length
  simp only [Array.length_toList] at e
  omega
theorem Inv.list_inj (I:Inv X pins σ H s) (h:SqL X.K H a xs) (h':SqL X.K H a ys):xs=ys:=by
 obtain ⟨its,r,⟨o,n,e,_,_,d⟩,_⟩:=I.list h
 obtain ⟨its',r',⟨o',n',e',_,_,d'⟩,_⟩:=I.list h'
 rw [e] at e'; cases e'
 rw [d] at d'
 injection d' with d1 _
 have:its=its':=by simpa using congrArg Array.toList d1
 subst this
 exact r.inj r'
theorem Inv.tuple_inj (I:Inv X pins σ H s) (h:SqT X.K H a xs) (h':SqT X.K H a ys):xs=ys:=by
 obtain ⟨its,r,⟨o,e,_,n,d⟩,_⟩:=I.tuple h
 obtain ⟨its',r',⟨o',e',_,n',d'⟩,_⟩:=I.tuple h'
 rw [e] at e'; cases e'
 rw [d] at d'
 injection d' with d1 _
 have:its=its':=by simpa using congrArg Array.toList d1
 subst this
 exact r.inj r'
abbrev Cx.wish (X:Cx) (E:Value->Shared->Prop):Cx:={ X with xe:=E }
abbrev Cx.nox (X:Cx):Cx:=X.wish fun _ _=>False
theorem Cx.Ok.wish (ok:X.Ok) (E:Value->Shared->Prop):(X.wish E).Ok :=
 ⟨ok.mod,ok.kind,ok.glob,ok.blt,ok.above,ok.inj,ok.has,ok.cab,ok.hd,ok.frames,ok.stk,ok.exf,ok.bs,ok.bsz,ok.noex,ok.exfs,ok.funs,ok.frf⟩
theorem Cx.Ok.unwish (ok:(X.wish E).Ok):X.Ok :=
 ⟨ok.mod,ok.kind,ok.glob,ok.blt,ok.above,ok.inj,ok.has,ok.cab,ok.hd,ok.frames,ok.stk,ok.exf,ok.bs,ok.bsz,ok.noex,ok.exfs,ok.funs,ok.frf⟩
theorem Inv.wish (I:Inv X pins σ H s) (E:Value->Shared->Prop):Inv (X.wish E) pins σ H s:=⟨I.ok.wish E,I.os,I.bare,I.base,I.loc,I.cell,I.free,I.freeC,I.pin,I.hok,I.len⟩
theorem Inv.unwish (I:Inv (X.wish E) pins σ H s):Inv X pins σ H s:=⟨I.ok.unwish,I.os,I.bare,I.base,I.loc,I.cell,I.free,I.freeC,I.pin,I.hok,I.len⟩
theorem SP.unwish {f:Flow} (h:SP (X.wish E) pins D f s'):SP X pins D f s':=by
 cases f with
 | next=>obtain ⟨σ',H',I,q⟩:=h; exact ⟨σ',H',I.unwish,q⟩
 | brk=>obtain ⟨σ',H',I,q⟩:=h; exact ⟨σ',H',I.unwish,q⟩
 | cont=>obtain ⟨σ',H',I,q⟩:=h; exact ⟨σ',H',I.unwish,q⟩
 | ret u=>obtain ⟨v,σ',H',I,r,q⟩:=h; exact ⟨v,σ',H',I.unwish,r,q⟩
theorem PE.nox {t:TE} (h:PE X.nox e t):PE X e t:=fun pins s σ H Q I hw =>
 wpAny_mono (h pins s σ H Q (I.wish _) hw) (fun _ _ ⟨v,H',I',r,q⟩=>⟨v,H',I'.unwish,r,q⟩) fun _ _ z=>False.elim z
theorem PT.nox {t:TT} (h:PT X.nox e t):PT X e t:=fun pins s σ H Q I hw =>
 wpAny_mono (h pins s σ H Q (I.wish _) hw) (fun _ _ ⟨H',I',q⟩=>⟨H',I'.unwish,q⟩) fun _ _ z=>False.elim z
theorem PSs.nox {st:List Stmt} {t:TS} (h:PSs X.nox st t):PSs X st t:=fun pins s σ H D I hw =>
 wpAny_mono (h pins s σ H D (I.wish _) hw) (fun _ _ q=>q.unwish) fun _ _ z=>False.elim z
end
section
variable {jF:List Stmt} {t u:TS} {pos:Pos}
def aGt:TS:=fun D σ H=>D.nx σ H
def aFu (t u:TS):TS:=fun D σ H=>t { D with nx:=u D } σ H
theorem bM:PSs X [] aGt:=fun _ _ σ H _ I h=>wpAny_execs_nil ⟨σ,H,I,h⟩
theorem aE (h1:PS X st t) (h2:PSs X jF u):PSs X (st::jF) (aFu t u):=by
 intro pins s σ H D I h
 refine wpAny_execs_cons (thn (h1 pins s σ H { D with nx:=u D } I h) fun f s1 q=>?_)
 cases f with
 | next =>
  obtain ⟨σ',H',I',q⟩:=q
  exact h2 pins s1 σ' H' D I' q
 | ret v=>exact q
 | brk=>exact q
 | cont=>exact q
theorem aJ (h1:PS X st t):PSs X [st] t:=by
 intro pins s σ H D I h
 refine wpAny_execs_cons (thn (h1 pins s σ H D I h) fun f s1 q=>?_)
 cases f with
 | next=>exact wpAny_execs_nil q
 | ret v=>exact q
 | brk=>exact q
 | cont=>exact q
theorem Inv.quiet {σ:St} (I:Inv X pins σ H s):interactive X.env=false:=by simp [interactive,I.ok.kind]
def aCr (te:TE):TS:=fun D σ H=>te σ H fun _ H1=>D.nx σ H1
theorem gM (he:PE X e te) (hs:swapsWith e none pos.line X.env=pure false:=by rfl):PS X (.Expr e pos) (aCr te):=by
 intro pins s σ H D I h
 refine wpAny_Expr_any (thn (he pins s σ H _ I h) fun v s1 hx9=>?_) I.quiet hs
 obtain ⟨x,H1,I1,r1,q1⟩:=hx9
 exact ⟨σ,H1,I1,q1⟩
def aHf (te:TE):TS:=fun D σ H=>te σ H D.rt
theorem aR (he:PE X e te):PS X (.Return (some e) pos) (aHf te):=by
 intro pins s σ H D I h
 refine wpAny_Return_some (thn (he pins s σ H _ I h) fun v s1 hx9=>?_)
 obtain ⟨x,H1,I1,r1,q1⟩:=hx9
 exact ⟨x,σ,H1,I1,r1,q1⟩
def aHg (c:TT) (t u:TS):TS:=fun D σ H=>c σ H fun b H1=>if b=true then t D σ H1 else u D σ H1
theorem cX {a b:List Stmt} {tc:TT} (hc:PT X c tc) (ha:PSs X a t) (hb:PSs X b u):PS X (.If c a b pos) (aHg tc t u):=by
 intro pins s σ H D I h
 refine wpAny_If (thn (hc pins s σ H _ I h) fun d s1 hx9=>?_)
 obtain ⟨H1,I1,q1⟩:=hx9
 cases d with
 | true=>exact ha pins s1 σ H1 D I1 q1
 | false=>exact hb pins s1 σ H1 D I1 q1
def aFv:TS:=fun _ _ _=>False
theorem uT {sts:List Stmt}:PSs X sts aFv:=fun _ _ _ _ _ _ h=>h.elim
end
abbrev TG:=V->St->Hp->(St->Hp->Prop)->Prop
end L2
variable {g g2:TG}
namespace L2
open PySem PySem.Spec PyProof.Rows
abbrev TGs:=List V->St->Hp->(St->Hp->Prop)->Prop
def PG (X:Cx) (target:Expr) (t:TG):Prop :=
 ∀ (pins:List (Addr×Obj)) (s:Shared) (σ:St) (H:Hp) (v:V) (u:Value) (Q:St->Hp->Prop),Inv X pins σ H s->bI v u->t v σ H Q ->
  wpAny (model X.prog X.w) X.A (assign target X.env u) (fun _ s'=>∃ σ' H',Inv X pins σ' H' s'/\Q σ' H') X.xe s
def PGs (X:Cx) (ts:List Expr) (t:TGs):Prop :=
 ∀ (pins:List (Addr×Obj)) (s:Shared) (σ:St) (H:Hp) (vs:List V) (us:List Value) (Q:St->Hp->Prop),Inv X pins σ H s->bJ vs us->t vs σ H Q ->
  wpAny (model X.prog X.w) X.A (assignInOrder ((assignEach ts X.env).map (·.2)) us) (fun _ s'=>∃ σ' H',Inv X pins σ' H' s'/\Q σ' H') X.xe s
abbrev aCs:=V->V->V->Hp->(Hp->Prop)->Prop
def aFw (X:Cx) (t:aCs):Prop :=
 ∀ (pins:List (Addr×Obj)) (s:Shared) (σ:St) (H:Hp) (o i v:V) (ov iv u:Value) (Q:Hp->Prop),Inv X pins σ H s->bI o ov->bI i iv->bI v u->t o i v H Q ->
  wpAny (model X.prog X.w) X.A (setItem ov iv u) (fun _ s'=>∃ H',Inv X pins σ H' s'/\Q H') X.xe s
abbrev TIp:=V->V->Hp->VK->Prop
def PIp (X:Cx) (op:Operator) (t:TIp):Prop :=
 ∀ (pins:List (Addr×Obj)) (s:Shared) (σ:St) (H:Hp) (x y:V) (v u:Value) (Q:VK),Inv X pins σ H s->bI x v->bI y u->t x y H Q ->
  wpAny (model X.prog X.w) X.A (inplaceOp op v u) (EP X pins σ Q) X.xe s
section
variable {pos:Pos}
def cH (i:Nat):TG:=fun v σ H Q=>Q (σ.set i (some v)) H
theorem aM {i:Nat} (hN:X.N.Nodup) (hi:X.N[i]?=some x) (hx:Loc X.env.scope x) (hf:X.fn x=true∨X.env.scope.names.lookup x=some .local:=by first | exact .inl rfl | exact .inr rfl | assumption):PG X (.Name x pos) (cH i):=by
 intro pins s σ H v u Q I r h
 exact wpAny_assign_Name (oI I hN hi hx r (fun s' I'=>⟨_,H,I',h⟩) hf)
def aHh:TGs:=fun vs σ H Q=>vs = []/\Q σ H
def aGu (t:TG) (u:TGs):TGs:=fun vs σ H Q=>∃ v r,vs=v::r/\t v σ H fun σ' H'=>u r σ' H' Q
theorem dQ:PGs X [] aHh:=by
 intro pins s σ H vs us Q I r h
 obtain ⟨e,h⟩:=h
 subst e
 cases r
 exact assignInOrder_nil ⟨σ,H,I,h⟩
theorem aX {t:TG} {u:TGs} (h1:PG X e t) (h2:PGs X es u) (hs:(assignEach (e::es) X.env).map (·.2)=assign e X.env::(assignEach es X.env).map (·.2):=by rfl):PGs X (e::es) (aGu t u):=by
 intro pins s σ H vs us Q I r h
 obtain ⟨v,vr,e1,h⟩:=h
 subst e1
 cases r with
 | cons r rr =>
  rw [hs]
  refine assignInOrder_cons (thn (h1 pins s σ H _ _ _ I r h) fun _ s1 hx9=>?_)
  obtain ⟨σ1,H1,I1,q1⟩:=hx9
  exact h2 pins s1 σ1 H1 _ _ Q I1 rr q1
def aGv (K:PySem.W.Frag) (n:Nat) (t:TGs):TG:=fun v σ H Q=>∃ a xs,v=.ref a/\SqT K H a xs/\xs.length=n/\t xs σ H Q
theorem kE {k:Nat} {t:TGs} (hc:X.calm=true) (h:PGs X es t) (hn:(assignEach es X.env).length=n:=by rfl) (hst:(assignEach es X.env).findIdx? (·.1)=none:=by rfl):PG X (.Tuple es k pos) (aGv X.K n t):=by
 intro pins s σ H v u Q I r hw
 obtain ⟨a,xs,e1,hq,hl,hw⟩:=hw
 subst e1
 cases r
 obtain ⟨its,rv,ht,hz⟩:=I.tuple hq
 refine assign_Tuple_tuple (I.ok.hd hc) ht (by simp [hn,<- hl,rv.length]) hst fun h' hx=>?_
 have I1:Inv X pins σ H { s with heap:=h' }:=I.kept (t':=s.toks) fun b o e=>hx b o (Jp (Qo e)) e
 exact h pins _ σ H xs _ Q I1 (by simpa using rv) hw
def aHi (to ti:TE) (t:aCs):TG:=fun v σ H Q=>to σ H fun o H1=>ti σ H1 fun i H2=>t o i v H2 fun H3=>Q σ H3
theorem rY {o i:Expr} {ti:TE} {t:aCs} (ho:PE X o to) (hi:PE X i ti) (hs:aFw X t) (ha:∀ v,assign (.Subscript o i pos) X.env v=(do
   let ov<-holding [v] (eval o X.env)
   let iv<-holding [v,ov] (eval i X.env)
   standAt pos
   holding [v,ov,iv] (setItem ov iv v)
   release [v,ov,iv] []):=by intro _; rfl):PG X (.Subscript o i pos) (aHi to ti t):=by
 intro pins s σ H v u Q I r h
 rw [ha]
 refine wpAny_bind (wpAny_holding (thn (ho pins s σ H _ I h) fun ov s1 hx9=>?_))
 obtain ⟨x,H1,I1,r1,q1⟩:=hx9
 refine wpAny_bind (wpAny_holding (thn (hi pins s1 σ H1 _ I1 q1) fun iv s2 hx9=>?_))
 obtain ⟨y,H2,I2,r2,q2⟩:=hx9
 refine wpAny_bind (wpAny_standAt (wpAny_bind (wpAny_holding (thn (hs pins s2 σ H2 x y v ov iv u _ I2 r1 r2 r q2) fun _ s3 hx9=>?_))))
 obtain ⟨H3,I3,q3⟩:=hx9
 exact wpAny_release ⟨σ,H3,I3,q3⟩
def aCt (te:TE) (g:TG):TS:=fun D σ H=>te σ H fun x H1=>g x σ H1 D.nx
theorem lD (he:PE X e te) (hg:PG X tg g) (hs:swapsWithSole [tg] e pos.line X.env=pure false:=by rfl) (hw:swappedStores [tg] e X.env=pure none:=by rfl) (h1:(assignEach [tg] X.env).map (·.2) = [assign tg X.env]:=by rfl):PS X (.Assign [tg] e pos) (aCt te g):=by
 intro pins s σ H D I h
 refine wpAny_Assign_stores (thn (he pins s σ H _ I h) fun v s1 hx9=>?_) hs hw
 obtain ⟨x,H1,I1,r1,q1⟩:=hx9
 rw [h1]
 exact thn (hg pins s1 σ H1 x v _ I1 r1 q1) fun _ s2 q=>q
theorem aS {i:Nat} (hN:X.N.Nodup) (hi:X.N[i]?=some x) (hx:Loc X.env.scope x) (he:PE X e te) (hs:swapsWith e (some (.Name x pos')) pos.line X.env=pure false:=by rfl) (hf:X.fn x=true∨X.env.scope.names.lookup x=some .local:=by first | exact .inl rfl | exact .inr rfl | assumption) :
  PS X (.Assign [.Name x pos'] e pos) (aCt te (cH i)):=by
 intro pins s σ H D I h
 refine wpAny_Assign_Name (thn (he pins s σ H _ I h) fun v s1 hx9=>?_) hs
 obtain ⟨y,H1,I1,r1,q1⟩:=hx9
 exact oI I1 hN hi hx r1 (fun s2 I2=>⟨_,H1,I2,q1⟩) hf
def aHj (i j:Nat) (ta:TA):TS:=fun D σ H=>ta σ H fun vs H1=>∃ v w,vs = [v,w]/\D.nx ((σ.set i (some v)).set j (some w)) H1
theorem aCu {i:Nat} {y:Str} {a b:Expr} {ta:TA} {px pt:Pos} {kt k2 pt2} (hc:X.calm=true) (hN:X.N.Nodup) (hi:X.N[i]?=some x) (hj:X.N[j]?=some y) (hij:i≠j) (hx:X.env.scope.names.lookup x=some .local) (hy:X.env.scope.names.lookup y=some .local) (ha:PA X [a,b] ta) (hw:swappedStores [.Tuple [.Name x px,.Name y py] kt pt] (.Tuple [a,b] k2 pt2) X.env=pure (some [x,y])) (hs:swapsWithSole [.Tuple [.Name x px,.Name y py] kt pt] (.Tuple [a,b] k2 pt2) pos.line X.env=pure false:=by rfl) :
  PS X (.Assign [.Tuple [.Name x px,.Name y py] kt pt] (.Tuple [a,b] k2 pt2) pos) (aHj i j ta):=by
 intro pins s σ H D I h
 rw [exec_Assign_arm]
 refine wpAny_bind (wpAny_standAt ?_)
 rw [hs]
 refine wpAny_bind (wpAny_pure ?_)
 rw [if_neg (by decide)]
 refine wpAny_bind (Tuple_ (thn (ha _ pins s σ H _ I h) fun us s1 hx9=>?_))
 obtain ⟨vs,H1,I1,r1,q1⟩:=hx9
 obtain ⟨v,w,e1,q1⟩:=q1
 subst e1
 obtain ⟨u1,u2,rfl,rv,rw'⟩:∃ u1 u2,us = [u1,u2]/\bI v u1/\bI w u2:=by
  cases r1 with
  | cons p q =>
   cases q with
   | cons p' q' =>
    cases q'
    exact ⟨_,_,rfl,p,p'⟩
 refine wpAny_newObj_type ?_ (by show 2<=sizeLine; decide)
 have I2:Inv X pins σ H1 { s1 with heap:=s1.heap.push { cls:=.type "tuple",data:=.seq [u1,u2].toArray } }:=I1.kept (t':=s1.toks) fun b o e=>Qa _ e
 rw [hw]
 refine wpAny_bind (wpAny_pure ?_)
 show wpAny (model X.prog X.w) X.A (do rule "assign.swapped-stores"; let items<-unpackItems (.ref s1.heap.objs.size) 2 none; assignInOrder [fun v=>bindName X.env y v,fun v=>bindName X.env x v] items.reverse; pure Flow.next) _ _ _
 refine wpAny_bind (wpAny_rule (wpAny_bind (unpackItems_tuple (items:=#[u1,u2]) (I.ok.hd hc) (IsTup.new s1.heap _) fun h' hx'=>?_)))
 have I3:=I2.kept (h':=h') (t':=s1.toks) fun b o e=>hx' b o (Jp (Qo e)) e
 show wpAny _ _ (assignInOrder [fun v=>bindName X.env y v,fun v=>bindName X.env x v] [u2,u1] >>= fun _=>pure Flow.next) _ _ _
 refine wpAny_bind (assignInOrder_cons (wpAny_bindName (oI I3 hN hj (.inl hy) rw' (fun s2 I4=>?_) (.inr hy))))
 refine assignInOrder_cons (wpAny_bindName (oI I4 hN hi (.inl hx) rv (fun s3 I5=>assignInOrder_nil (wpAny_pure ?_)) (.inr hx)))
 rw [List.set_comm _ _ (Ne.symm hij)] at I5
 exact ⟨_,H1,I5,q1⟩
def aGw (to ti te:TE) (tget:V->V->Hp->VK->Prop) (tip:TIp) (tset:aCs):TS:=fun D σ H=>to σ H fun o H1=>ti σ H1 fun i H2=>tget o i H2 fun x H3=>te σ H3 fun y H4=>tip x y H4 fun z H5=>tset o i z H5 fun H6=>D.nx σ H6
def aGx (X:Cx) (t:V->V->Hp->VK->Prop):Prop :=
 ∀ (pins:List (Addr×Obj)) (s:Shared) (σ:St) (H:Hp) (o i:V) (ov iv:Value) (Q:VK),Inv X pins σ H s->bI o ov->bI i iv->t o i H Q ->
  wpAny (model X.prog X.w) X.A (getItem ov iv) (EP X pins σ Q) X.xe s
theorem aDZ {o i:Expr} {ti:TE} {tget:V->V->Hp->VK->Prop} {tip:TIp} {tset:aCs} {op:Operator} (ho:PE X o to) (hi:PE X i ti) (hg:aGx X tget) (he:PE X e te) (hp:PIp X op tip) (hs:aFw X tset) (ha:∀ ov iv new,augStore i ov iv new=(do holding [new,ov,iv] (setItem ov iv new); release [new,ov,iv] []; pure .next):=by intros; rfl):PS X (.AugAssign (.Subscript o i tpos) op e pos) (aGw to ti te tget tip tset):=by
 intro pins s σ H D I h
 refine wpAny_AugAssign_SubscriptAny (thn (ho pins s σ H _ I h) fun ov s1 hx9=>?_) ha
 obtain ⟨x1,H1,I1,r1,q1⟩:=hx9
 refine thn (hi pins s1 σ H1 _ I1 q1) fun iv s2 hx9=>?_
 obtain ⟨x2,H2,I2,r2,q2⟩:=hx9
 refine thn (hg pins s2 σ H2 x1 x2 ov iv _ I2 r1 r2 q2) fun old s3 hx9=>?_
 obtain ⟨x3,H3,I3,r3,q3⟩:=hx9
 refine thn (he pins s3 σ H3 _ I3 q3) fun v s4 hx9=>?_
 obtain ⟨x4,H4,I4,r4,q4⟩:=hx9
 refine thn (hp pins s4 σ H4 x3 x4 old v _ I4 r3 r4 q4) fun new s5 hx9=>?_
 obtain ⟨x5,H5,I5,r5,q5⟩:=hx9
 refine thn (hs pins s5 σ H5 x1 x2 x5 ov iv new _ I5 r1 r2 r5 q5) fun _ s6 hx9=>?_
 obtain ⟨H6,I6,q6⟩:=hx9
 exact ⟨σ,H6,I6,q6⟩
def ipI (f:Int->Int->Int):TIp:=fun x y H Q=>∃ i j,x=.int i/\y=.int j/\Q (.int (f i j)) H
theorem aFx:PIp X .Sub (ipI fun i j=>i - j):=by
 intro pins s σ H x y v u Q I r1 r2 h
 obtain ⟨i,j,e1,e2,q⟩:=h
 subst e1; subst e2
 obtain ⟨t,rfl⟩:=r1
 obtain ⟨t',rfl⟩:=r2
 exact isub_int ⟨.int _,H,I.tok _,⟨_,rfl⟩,q⟩
def aFy (c:TT) (tb:TS):TS:=fun D σ H=>∃ W:Nat->St->Hp->Prop,(∃ m,W m σ H)/\∀ m σ H,W m σ H ->
 c σ H fun b H1=>if b=true then ∃ N:St->Hp->Prop,(∀ σ' H',N σ' H'->∃ m',m' < m/\W m' σ' H')/\tb { D with nx:=N,ct:=N,bk:=D.nx } σ H1 else D.nx σ H1
theorem kI {tc:TT} {tb:TS} (hp:PassesOwn (model X.prog X.w) X.A X.env X.xe) (hc:PT X c tc) (hb:PSs X body tb):PS X (.While c body [] pos) (aFy tc tb):=by
 intro pins s σ H D I h
 obtain ⟨W,⟨m0,w0⟩,turn⟩:=h
 refine wpAny_While (codeAny_whileLoop (fun n s'=>∃ σ' H',Inv X pins σ' H' s'/\W n σ' H') ?_ m0 ⟨σ,H,I,w0⟩)
 rintro n s1 ⟨σ1,H1,I1,w1⟩
 refine wpAny_passesOwn hp (thn (hc pins s1 σ1 H1 _ I1 (turn n σ1 H1 w1)) fun b s2 hx9=>?_)
 obtain ⟨H2,I2,q2⟩:=hx9
 cases b with
 | true =>
  obtain ⟨N,hN,q2⟩:=q2
  rw [if_pos rfl]
  refine wpAny_passesOwn hp (thn (hb pins s2 σ1 H2 _ I2 q2) fun f s3 q3=>?_)
  cases f with
  | next =>
   obtain ⟨σ3,H3,I3,n3⟩:=q3
   obtain ⟨m',hm,w3⟩:=hN σ3 H3 n3
   exact ⟨m',hm,σ3,H3,I3,w3⟩
  | cont =>
   obtain ⟨σ3,H3,I3,n3⟩:=q3
   obtain ⟨m',hm,w3⟩:=hN σ3 H3 n3
   exact ⟨m',hm,σ3,H3,I3,w3⟩
  | brk=>exact q3
  | ret v=>exact q3
 | false =>
  rw [if_neg Qx]
  exact wpAny_execs_nil ⟨σ1,H2,I2,q2⟩
end
structure It where
 go:Nat->Hp->Prop
 yld:Nat->Hp->V->Hp->Prop
 stop:Nat->Hp->Prop
end L2
variable {J:It}
namespace L2
open PySem PySem.Spec PyProof.Rows
def hX (X:Cx) (pins:List (Addr×Obj)) (H:Hp) (b:Addr):Prop :=
 H b=none/\b≠X.env.locals/\b∉X.fs/\(b∈X.ex∨X.s₀.heap.objs.size<=b)/\(∀ x c,X.env.cells.lookup x=some c->c≠b)/\∀ p∈X.pn++pins,p.1≠b
theorem Inv.fpOk {σ:St} (I:Inv X pins σ H s) (hb:s.heap.objs.size<=b) (hn:H' b=none):hX X pins H' b:=by
 refine ⟨hn,Zy (Ql I.lt hb),I.nofs hb,.inr (Qu I.sz hb),fun x c e z=>?_,fun p hp z=>?_⟩
 ·obtain ⟨v,q⟩:=I.cell x c e
  exact absurd (Ql q.lt (by rw [z]; exact hb)) (Qv _)
 ·exact absurd (Ql (Qo (I.pin p hp).1) (by rw [z]; exact hb)) (Qv _)
structure Turn (P:Program) (w:World) (K:PySem.W.Frag) (tg:Expr) (J:It) (fp:List Addr) (it:Addr) (tn:Nat->Heap->Prop):Prop where
 mem:it∈fp
 obj:∀ i h,tn i h->∀ b∈fp,∃ o,h.get? b=some o/\∀ v,o.data≠.cell v
 keep:∀ i h h',tn i h->(∀ b∈fp,∀ o,h.get? b=some o->h'.get? b=some o)->tn i h'
 item:∀ (X:Cx),X.prog=P->X.w=w->X.K=K->X.calm=true->∀ (i:Nat) (pins:List (Addr×Obj)) (s:Shared) (σ:St) (H:Hp) (E:Value->Shared->Prop),Inv X pins σ H s->(∀ b∈fp,hX X pins H b)->tn i s.heap->J.go i H ->
  wpAny (model P w) X.A (pyNext (.ref it)) (fun r s1=>∃ u,r=some u /\
   wpAny (model P w) X.A (letOwnedTupleGo tg (.ref it) u) (fun _ s2=>∃ x H',Inv X pins σ H' s2/\bI x u/\J.yld i H x H'/\tn (i+1) s2.heap/\∀ b∈fp,H' b=none) E s1) E s
 done:∀ (X:Cx),X.prog=P->X.w=w->X.K=K->X.calm=true->∀ (i:Nat) (pins:List (Addr×Obj)) (s:Shared) (σ:St) (H:Hp) (E:Value->Shared->Prop),Inv X pins σ H s->(∀ b∈fp,hX X pins H b)->tn i s.heap->J.stop i H ->
  wpAny (model P w) X.A (pyNext (.ref it)) (fun r s1=>r=none/\Inv X pins σ H s1) E s
 self:∀ (A:Around) (i:Nat) (s:Shared) (Q:Value->Shared->Prop) (E:Value->Shared->Prop),tn i s.heap->Q (.ref it) s->wpAny (model P w) A (pyIter (.ref it)) Q E s
abbrev TI:=St->Hp->(It->Hp->Prop)->Prop
def PIE (X:Cx) (pins:List (Addr×Obj)) (σ:St) (tg:Expr) (R:It->Hp->Prop) (itv:Value) (s2:Shared):Prop :=
 ∃ (it:Addr) (fp:List Addr) (tn:Nat->Heap->Prop) (J:It) (H':Hp),itv=.ref it/\Inv X pins σ H' s2/\Turn X.prog X.w X.K tg J fp it tn/\tn 0 s2.heap/\(∀ b∈fp,hX X pins H' b)/\R J H'
def PI (X:Cx) (tg iter:Expr) (wi:TI):Prop :=
 ∀ (pins:List (Addr×Obj)) (s:Shared) (σ:St) (H:Hp) (R:It->Hp->Prop),Inv X pins σ H s->wi σ H R ->
  wpAny (model X.prog X.w) X.A (eval iter X.env) (fun v s1=>wpAny (model X.prog X.w) X.A (pyIter v) (PIE X pins σ tg R) X.xe s1) X.xe s
theorem aAH {n:String} {vs:Array Value} {Q:Unit->Shared->Prop} (ho:s.heap.get? it=some o) (hc:o.cls=.type n) (hd:o.data=.fields vs) (hn : ["enumerate", "zip", "dict_itemiterator", "dict_reverseitemiterator", "odict_iterator", "itertools.zip_longest", "itertools.pairwise"].contains n=false) (hQ:Q () s):wpAny M A (letOwnedTupleGo tg (.ref it) u) Q E s:=by
 unfold letOwnedTupleGo
 cases tg <;> first
  | exact wpAny_pure hQ
  | (cases u <;> first
    | exact wpAny_pure hQ
    | (refine wpAny_bind (wpAny_load ho ?_)
       rw [hc,hd]
       show wpAny M A (if (["enumerate", "zip", "dict_itemiterator", "dict_reverseitemiterator", "odict_iterator", "itertools.zip_longest", "itertools.pairwise"].contains n && vs[0]?==some (rawInt _))=true then _ else _) Q E s
       rw [if_neg (by intro h; rw [hn,Jz] at h; cases h)]
       exact wpAny_pure hQ))
def Itl (K:PySem.W.Frag) (a:Addr):It :=
 ⟨fun i H=>∃ xs x,SqL K H a xs/\xs[i]?=some x,fun i H x H'=>H'=H/\∀ xs,SqL K H a xs->xs[i]?=some x,fun i H=>∃ xs,SqL K H a xs/\xs.length<=i⟩
def Itt (K:PySem.W.Frag) (a:Addr):It :=
 ⟨fun i H=>∃ xs x,SqT K H a xs/\xs[i]?=some x,fun i H x H'=>H'=H/\∀ xs,SqT K H a xs->xs[i]?=some x,fun i H=>∃ xs,SqT K H a xs/\xs.length<=i⟩
def Itr (lo:Int) (n:Nat):It:=⟨fun i _=>i < n,fun i H x H'=>H'=H/\x=.int (lo+i),fun i _=>n<=i⟩
theorem aBw (a it:Addr):Turn P w K tg (Itl K a) [it] it (fun i h=>h.IsListIter it a i) where
 mem:=by simp
 obj:=fun i h st b hb=>by
  have e:b=it:=by simpa using hb
  subst e
  obtain ⟨o,e,c,d⟩:=st
  exact ⟨o,e,fun v z=>by rw [d] at z; cases z⟩
 keep:=fun i h h' st k=>st.at fun o e=>k it (by simp) o e
 item:=by
  intro X hP hw hK hc i pins s σ H E I hf st hg
  subst hP hw hK
  obtain ⟨xs,x,hq,hx⟩:=hg
  obtain ⟨its,rv,p,hz⟩:=I.list hq
  obtain ⟨u,hu,ru⟩:=rv.get hx
  obtain ⟨f0,f1,f2,f3,f4,f5⟩:=hf it (by simp)
  refine wpAny_pyNext_list_item st p.isList (x:=u) (by simpa using hu) fun h' st' sb=>?_
  have I1:Inv X pins σ H { s with heap:=h' }:=I.turned (t':=s.toks) (fun b o hb e=>(sb.2 b hb).trans e) f0 f1 f3 f4 f5
  obtain ⟨o,e,c,d⟩:=id st'
  exact ⟨u,rfl,aAH (s:={ s with heap:=h' }) e c d (by decide) ⟨x,H,I1,ru,⟨rfl,fun ys hy=>by rw [I.list_inj hy hq]; exact hx⟩,st',fun b hb=>(hf b hb).1⟩⟩
 done:=by
  intro X hP hw hK hc i pins s σ H E I hf st hg
  subst hP hw hK
  obtain ⟨xs,hq,hx⟩:=hg
  obtain ⟨its,rv,p,hz⟩:=I.list hq
  obtain ⟨f0,f1,f2,f3,f4,f5⟩:=hf it (by simp)
  have hl:=rv.length
  exact wpAny_pyNext_list_end (I.ok.hd hc) st p.isList (by simp; omega) fun h' eb=>⟨rfl,I.turned (t':=s.toks) (fun b o hb e=>eb b o hb e) f0 f1 f3 f4 f5⟩
 self:=fun _ _ _ _ _ st h=>wpAny_pyIter_listiter st h
theorem zZ (a it:Addr):Turn P w K tg (Itt K a) [it] it (fun i h=>h.IsTupleIter it a i) where
 mem:=by simp
 obj:=fun i h st b hb=>by
  have e:b=it:=by simpa using hb
  subst e
  obtain ⟨o,e,c,d⟩:=st
  exact ⟨o,e,fun v z=>by rw [d] at z; cases z⟩
 keep:=fun i h h' st k=>st.at fun o e=>k it (by simp) o e
 item:=by
  intro X hP hw hK hc i pins s σ H E I hf st hg
  subst hP hw hK
  obtain ⟨xs,x,hq,hx⟩:=hg
  obtain ⟨its,rv,p,hz⟩:=I.tuple hq
  obtain ⟨u,hu,ru⟩:=rv.get hx
  obtain ⟨f0,f1,f2,f3,f4,f5⟩:=hf it (by simp)
  refine wpAny_pyNext_tuple_item st (show s.heap.IsTuple a its.toArray from p) (x:=u) (by simpa using hu) fun h' st' sb=>?_
  have I1:Inv X pins σ H { s with heap:=h' }:=I.turned (t':=s.toks) (fun b o hb e=>(sb.2 b hb).trans e) f0 f1 f3 f4 f5
  obtain ⟨o,e,c,d⟩:=id st'
  exact ⟨u,rfl,aAH (s:={ s with heap:=h' }) e c d (by decide) ⟨x,H,I1,ru,⟨rfl,fun ys hy=>by rw [I.tuple_inj hy hq]; exact hx⟩,st',fun b hb=>(hf b hb).1⟩⟩
 done:=by
  intro X hP hw hK hc i pins s σ H E I hf st hg
  subst hP hw hK
  obtain ⟨xs,hq,hx⟩:=hg
  obtain ⟨its,rv,p,hz⟩:=I.tuple hq
  obtain ⟨f0,f1,f2,f3,f4,f5⟩:=hf it (by simp)
  have hl:=rv.length
  exact wpAny_pyNext_tuple_end (I.ok.hd hc) st (show s.heap.IsTuple a its.toArray from p) (by simp; omega) fun h' eb=>⟨rfl,I.turned (t':=s.toks) (fun b o hb e=>eb b o hb e) f0 f1 f3 f4 f5⟩
 self:=fun _ _ _ _ _ st h=>wpAny_pyIter_tupleiter st h
theorem aAa (it:Addr) (lo:Int) (n:Nat):Turn P w K tg (Itr lo n) [it] it (fun i h=>IsRangeIter h it (lo+(i:Nat)*1) ((n:Int) - (i:Nat)) 1) where
 mem:=by simp
 obj:=fun i h st b hb=>by
  have e:b=it:=by simpa using hb
  subst e
  exact ⟨_,st,fun v z=>by
   have z':Data.fields _=Data.cell v:=z
   cases z'⟩
 keep:=fun i h h' st k=>k it (by simp) _ st
 item:=by
  intro X hP hw hK hc i pins s σ H E I hf st hg
  subst hP hw hK
  obtain ⟨f0,f1,f2,f3,f4,f5⟩:=hf it (by simp)
  have W:=Walks.range (prog:=X.prog) (w:=X.w) (I.ok.hd hc) it lo 1 n
  refine W.item i s _ _ hg st fun v h' tk hv st' kk=>?_
  obtain ⟨t,rfl⟩:=hv
  have I1:Inv X pins σ H { s with heap:=h',toks:=tk }:=I.turned (fun b o hb e=>kk b o (by simpa using hb) e) f0 f1 f3 f4 f5
  refine ⟨_,rfl,aAH (s:={ s with heap:=h',toks:=tk }) (n := "range_iterator") st' rfl rfl (by decide) ⟨.int (lo+i),H,I1,⟨t,?_⟩,⟨rfl,rfl⟩,st',fun b hb=>(hf b hb).1⟩⟩
  rw [Int.mul_one]
 done:=by
  intro X hP hw hK hc i pins s σ H E I hf st hg
  subst hP hw hK
  obtain ⟨f0,f1,f2,f3,f4,f5⟩:=hf it (by simp)
  exact wpAny_pyNext_range_end (I.ok.hd hc) st (by have:n<=i:=hg; omega) fun h' eb=>⟨rfl,I.turned (t':=s.toks) (fun b o hb e=>eb b o hb e) f0 f1 f3 f4 f5⟩
 self:=fun _ _ _ _ _ st h=>wpAny_pyIter_rangeiter st h
def aFa (K:PySem.W.Frag) (tl:TE):TI:=fun σ H R=>tl σ H fun x H1=>∃ a,x=.ref a/\(∃ xs,SqL K H1 a xs)/\R (Itl K a) H1
def aGy (K:PySem.W.Frag) (tl:TE):TI:=fun σ H R=>tl σ H fun x H1=>∃ a,x=.ref a/\(∃ xs,SqT K H1 a xs)/\R (Itt K a) H1
theorem cN {l:Expr} (hl:PE X l tl):PI X tg l (aFa X.K tl):=by
 intro pins s σ H R I h
 refine thn (hl pins s σ H _ I h) fun v s1 hx9=>?_
 obtain ⟨x,H1,I1,r1,q1⟩:=hx9
 obtain ⟨a,e,⟨xs,hq⟩,q⟩:=q1
 subst e
 cases r1
 obtain ⟨its,rv,p,hz⟩:=I1.list hq
 refine wpAny_pyIter_list p.isList ?_
 refine ⟨s1.heap.objs.size,[s1.heap.objs.size],_,_,H1,rfl,I1.kept (t':=s1.toks) fun b o e=>Qa _ e,aBw a _,⟨_,Qm _ rfl,rfl,rfl⟩,fun b hb=>?_,q⟩
 have e:b=s1.heap.objs.size:=by simpa using hb
 subst e
 exact I1.fpOk (Qg _) (I1.hok.fresh (Qg _))
theorem gC {l:Expr} (hl:PE X l tl):PI X tg l (aGy X.K tl):=by
 intro pins s σ H R I h
 refine thn (hl pins s σ H _ I h) fun v s1 hx9=>?_
 obtain ⟨x,H1,I1,r1,q1⟩:=hx9
 obtain ⟨a,e,⟨xs,hq⟩,q⟩:=q1
 subst e
 cases r1
 obtain ⟨its,rv,p,hz⟩:=I1.tuple hq
 refine wpAny_pyIter_tuple (show s1.heap.IsTuple a its.toArray from p) ?_
 refine ⟨s1.heap.objs.size,[s1.heap.objs.size],_,_,H1,rfl,I1.kept (t':=s1.toks) fun b o e=>Qa _ e,zZ a _,⟨_,Qm _ rfl,rfl,rfl⟩,fun b hb=>?_,q⟩
 have e:b=s1.heap.objs.size:=by simpa using hb
 subst e
 exact I1.fpOk (Qg _) (I1.hok.fresh (Qg _))
theorem xU {σ:St} {R:It->Hp->Prop} {hi:Int} {t u v:Tok} {tk:Nat} (I:Inv X pins σ H s) (h1:-(2^62)<=lo) (h2:lo < 2^62) (h3:-(2^62)<=hi) (h4:hi < 2^62) (q:R (Itr lo (hi - lo).toNat) H):wpAny (model X.prog X.w) X.A (pyIter (.ref s.heap.objs.size)) (PIE X pins σ tg R) E { s with heap:=s.heap.push { cls:=.type "range",data:=.fields #[.int lo t,.int hi u,.int 1 v] },toks:=tk }:=by
 refine wpAny_pyIter_range (IsRange.new ..) (small_one h1 h2 h3 h4) ?_
 have I1:Inv X pins σ H { s with heap:=s.heap.push { cls:=.type "range",data:=.fields #[.int lo t,.int hi u,.int 1 v] },toks:=tk }:=I.kept fun b o e=>Qa _ e
 refine ⟨(s.heap.push { cls:=.type "range",data:=.fields #[.int lo t,.int hi u,.int 1 v] }).objs.size,[(s.heap.push { cls:=.type "range",data:=.fields #[.int lo t,.int hi u,.int 1 v] }).objs.size],_,_,H,rfl,
  I1.kept (t':=tk) fun b o e=>Qa _ e,aAa _ lo (hi - lo).toNat,?_,fun b hb=>?_,q⟩
 ·have e1:lo+((0:Nat):Int)*1=lo:=by simp
  have e2:(((hi - lo).toNat:Nat):Int) - ((0:Nat):Int)=Builtin.Range.rangeSize lo hi 1:=by rw [rangeSize_one]; split <;> omega
  show IsRangeIter _ _ (lo+((0:Nat):Int)*1) ((((hi - lo).toNat:Nat):Int) - ((0:Nat):Int)) 1
  rw [e1,e2]
  exact Qm _ rfl
 ·have e:b=(s.heap.push { cls:=.type "range",data:=.fields #[.int lo t,.int hi u,.int 1 v] }).objs.size:=by simpa using hb
  subst e
  exact I1.fpOk (Qg _) (I1.hok.fresh (Qg _))
def aGz (ta:TA):TI:=fun σ H R=>ta σ H fun vs H1=>∃ j:Int,vs = [.int j]/\-(2^62)<=j/\j < 2^62/\R (Itr 0 j.toNat) H1
def aGA (ta:TA):TI:=fun σ H R=>ta σ H fun vs H1=>∃ i j:Int,vs = [.int i,.int j]/\(-(2^62)<=i/\i < 2^62/\-(2^62)<=j/\j < 2^62)/\R (Itr i (j - i).toNat) H1
theorem cT {a:Expr} {ta:TA} {p pos:Pos} (hg:Gl X "range") (hm:X.mg "range" = none) (ha:PA X [a] ta) (hs:starEach [a] X.env = [(false,eval a X.env)]:=by rfl):PI X tg (.Call (.Name "range" p) [a] [] pos) (aGz ta):=by
 intro pins s σ H R I h
 refine Call_ (jN I hg hm boot_range (PyProof.Rows.callWith_type1 (thn (ha pos pins s σ H _ I h) fun us s1 hx9=>?_) hs rfl))
 obtain ⟨vs,H1,I1,r1,q1⟩:=hx9
 obtain ⟨j,e,q1,q2,q⟩:=q1
 subst e
 cases r1 with
 | cons r rr =>
  cases rr
  obtain ⟨t,rfl⟩:=r
  exact call_range_1 (xU I1 (by omega) (by omega) q1 q2 (by simpa using q))
theorem aBx {a b:Expr} {ta:TA} {p pos:Pos} (hg:Gl X "range") (hm:X.mg "range" = none) (ha:PA X [a,b] ta) (hs:starEach [a,b] X.env = [(false,eval a X.env),(false,eval b X.env)]:=by rfl) (hs2:starEach [b] X.env = [(false,eval b X.env)]:=by rfl) :
  PI X tg (.Call (.Name "range" p) [a,b] [] pos) (aGA ta):=by
 intro pins s σ H R I h
 refine Call_ (jN I hg hm boot_range (PyProof.Rows.callWith_type1 (thn (ha pos pins s σ H _ I h) fun us s1 hx9=>?_) (by rw [hs,hs2]) (by rw [hs2]; rfl)))
 obtain ⟨vs,H1,I1,r1,q1⟩:=hx9
 obtain ⟨i,j,e,⟨q1,q2,q3,q4⟩,q⟩:=q1
 subst e
 cases r1 with
 | cons r rr =>
  cases rr with
  | cons r' rr =>
   cases rr
   obtain ⟨t,rfl⟩:=r
   obtain ⟨t',rfl⟩:=r'
   exact call_range_2 (xU I1 q1 q2 q3 q4 q)
def aHk (wi:TI) (g:TG) (tb:TS):TS:=fun D σ H=>wi σ H fun J H1=>∃ W:Nat->Nat->St->Hp->Prop,(∃ m,W 0 m σ H1)/\∀ i m σ H,W i m σ H ->
 (J.stop i H/\D.nx σ H)∨(J.go i H/\∃ N:St->Hp->Prop,(∀ σ' H',N σ' H'->∃ m',m' < m/\W (i+1) m' σ' H')/\∀ x H',J.yld i H x H'->g x σ H' fun σ2 H2=>tb { D with nx:=N,ct:=N,bk:=D.nx } σ2 H2)
def mB (fp:List Addr) (h:Heap):List (Addr×Obj):=fp.filterMap fun b=>(h.get? b).map fun o=>(b,o)
theorem eI (hb:b∈fp) (e:h.get? b=some o):(b,o)∈mB fp h:=Ws.mpr ⟨b,hb,by rw [e]; rfl⟩
theorem uU {p:Addr×Obj} (hp:p∈mB fp h):p.1∈fp/\h.get? p.1=some p.2:=by
 obtain ⟨b,hb,e⟩:=Ws.mp hp
 cases q:h.get? b with
 | none=>rw [q] at e; cases e
 | some o =>
  rw [q] at e
  have e':(b,o)=p:=Option.some.inj e
  subst e'
  exact ⟨hb,q⟩
theorem Inv.pinned {σ:St} (I:Inv X pins σ H s) (hf:∀ b∈fp,hX X pins H b) (ho:∀ b∈fp,∃ o,s.heap.get? b=some o/\∀ v,o.data≠.cell v):Inv X (pins++mB fp s.heap) σ H s :=
 I.pins_of fun p hp=>(Jg.mp hp).elim (fun z=>I.pin p (Qp _ z)) fun z=>by
  obtain ⟨hb,e⟩:=uU z
  obtain ⟨f0,f1,f2,_⟩:=hf p.1 hb
  obtain ⟨o,e',d⟩:=ho p.1 hb
  rw [e] at e'; cases e'
  exact ⟨e,f0,f1,f2,d⟩
theorem Inv.unpinned {pl:List (Addr×Obj)} {σ:St} (I:Inv X (pins++pl) σ H s):Inv X pins σ H s:=I.pins_of fun p hp=>I.pin p (Qp _ (Ju _ hp))
theorem cU {wi:TI} {tb:TS} {pos:Pos} (hp:PassesOwn (model X.prog X.w) X.A X.env X.xe) (hc:X.calm=true) (hi:PI X tg iter wi) (hg:PG X tg g) (hb:PSs X body tb) (hs:∀ x,foldedSetIterable iter X.env x=pure x:=by intro _; rfl):PS X (.For tg iter body [] pos) (aHk wi g tb):=by
 intro pins s σ H D I h
 refine wpAny_For (thn (hi pins s σ H _ I h) fun v s1 h1=>thn h1 fun itv s2 h2=>?_) hs
 obtain ⟨it,fp,tn,J,H2,e,I2,T,st2,f2,W,⟨m0,w0⟩,turn⟩:=h2
 subst e
 -- what stays true of the iterator's objects through the loop
 have stat:∀ {H':Hp},(∀ b∈fp,H' b=none)->∀ b∈fp,hX X pins H' b:=fun hn b hb=>⟨hn b hb,(f2 b hb).2⟩
 refine codeAny_forLoop_any (fun n s'=>∃ i σ' H',Inv X pins σ' H' s'/\tn i s'.heap/\(∀ b∈fp,H' b=none)/\W i n σ' H') ?_ m0 ⟨0,σ,H2,I2,st2,fun b hb=>(f2 b hb).1,w0⟩
 rintro n s3 ⟨i,σ3,H3,I3,st3,fr3,w3⟩
 rcases turn i n σ3 H3 w3 with ⟨stop,qn⟩ | ⟨go,N,hN,step⟩
 ·refine wpAny_passesOwn hp (thn (T.done X rfl rfl rfl hc i pins s3 σ3 H3 X.xe I3 (stat fr3) st3 stop) fun r s4 hx9=>?_)
  obtain ⟨hr,I4⟩:=hx9
  subst hr
  exact wpAny_execs_nil ⟨σ3,H3,I4,qn⟩
 ·refine wpAny_passesOwn hp (thn (T.item X rfl rfl rfl hc i pins s3 σ3 H3 X.xe I3 (stat fr3) st3 go) fun r s4 hx9=>?_)
  obtain ⟨u,hr,h4⟩:=hx9
  subst hr
  refine wpAny_passesOwn hp (thn h4 fun _ s5 hx9=>?_)
  obtain ⟨x,H5,I5,r5,y5,st5,fr5⟩:=hx9
  have I5':=I5.pinned (stat fr5) (T.obj _ _ st5)
  refine wpAny_passesOwn hp (thn (hg _ s5 σ3 H5 x u _ I5' r5 (step x H5 y5)) fun _ s6 hx9=>?_)
  obtain ⟨σ6,H6,I6,q6⟩:=hx9
  refine wpAny_passesOwn hp (thn (hb _ s6 σ6 H6 _ I6 q6) fun f s7 q7=>?_)
  have again:∀ {σ7:St} {H7:Hp},Inv X (pins++mB fp s5.heap) σ7 H7 s7->N σ7 H7->∃ m,m < n/\∃ i σ' H',Inv X pins σ' H' s7/\tn i s7.heap/\(∀ b∈fp,H' b=none)/\W i m σ' H':=fun {σ7 H7} I7 n7=>by
   obtain ⟨m',hm,w7⟩:=hN σ7 H7 n7
   refine ⟨m',hm,i+1,σ7,H7,I7.unpinned,T.keep _ _ _ st5 fun b hb o e=>(I7.pin (b,o) (Qp _ (Qp _ (eI hb e)))).1,fun b hb=>?_,w7⟩
   obtain ⟨o,e,d⟩:=T.obj _ _ st5 b hb
   exact (I7.pin (b,o) (Qp _ (Qp _ (eI hb e)))).2.1
  cases f with
  | next=>obtain ⟨σ7,H7,I7,n7⟩:=q7; exact again I7 n7
  | cont=>obtain ⟨σ7,H7,I7,n7⟩:=q7; exact again I7 n7
  | brk=>obtain ⟨σ7,H7,I7,q7⟩:=q7; exact ⟨σ7,H7,I7.unpinned,q7⟩
  | ret v=>obtain ⟨x7,σ7,H7,I7,r7,q7⟩:=q7; exact ⟨x7,σ7,H7,I7.unpinned,r7,q7⟩
theorem iB {tb:TS} {σ:St} (Pv:Nat->St->Hp->Prop) (h0:Pv 0 σ H) (hl:∀ i σ H,i<=xs.length->Pv i σ H->SqL K H a xs) (hs:∀ i x σ H,xs[i]?=some x->Pv i σ H->g x σ H fun σ2 H2=>tb { D with nx:=Pv (i+1),ct:=Pv (i+1),bk:=D.nx } σ2 H2) (hd:∀ σ H,Pv xs.length σ H->D.nx σ H) :
  ∃ W:Nat->Nat->St->Hp->Prop,(∃ m,W 0 m σ H)/\∀ i m σ H,W i m σ H ->
   ((Itl K a).stop i H/\D.nx σ H)∨((Itl K a).go i H/\∃ N:St->Hp->Prop,(∀ σ' H',N σ' H'->∃ m',m' < m/\W (i+1) m' σ' H')/\∀ x H',(Itl K a).yld i H x H'->g x σ H' fun σ2 H2=>tb { D with nx:=N,ct:=N,bk:=D.nx } σ2 H2):=by
 refine ⟨fun i m σ H=>m=xs.length - i/\i<=xs.length/\Pv i σ H,⟨xs.length,by simp,Jj _,h0⟩,?_⟩
 rintro i m σ H ⟨rfl,hi,p⟩
 have q:=hl i σ H hi p
 by_cases hlt:i < xs.length
 ·refine .inr ⟨⟨xs,xs[i],q,by simp [hlt]⟩,Pv (i+1),fun σ' H' p'=>⟨xs.length - (i+1),by omega,rfl,hlt,p'⟩,fun x H' y=>?_⟩
  obtain ⟨e,y⟩:=y
  subst e
  exact hs i x σ _ (y xs q) p
 ·have e:i=xs.length:=by omega
  subst e
  exact .inl ⟨⟨xs,q,Qg _⟩,hd σ H p⟩
theorem oJ {tb:TS} {σ:St} (Pv:Nat->St->Hp->Prop) (h0:Pv 0 σ H) (hl:∀ i σ H,i<=xs.length->Pv i σ H->SqT K H a xs) (hs:∀ i x σ H,xs[i]?=some x->Pv i σ H->g x σ H fun σ2 H2=>tb { D with nx:=Pv (i+1),ct:=Pv (i+1),bk:=D.nx } σ2 H2) (hd:∀ σ H,Pv xs.length σ H->D.nx σ H) :
  ∃ W:Nat->Nat->St->Hp->Prop,(∃ m,W 0 m σ H)/\∀ i m σ H,W i m σ H ->
   ((Itt K a).stop i H/\D.nx σ H)∨((Itt K a).go i H/\∃ N:St->Hp->Prop,(∀ σ' H',N σ' H'->∃ m',m' < m/\W (i+1) m' σ' H')/\∀ x H',(Itt K a).yld i H x H'->g x σ H' fun σ2 H2=>tb { D with nx:=N,ct:=N,bk:=D.nx } σ2 H2):=by
 refine ⟨fun i m σ H=>m=xs.length - i/\i<=xs.length/\Pv i σ H,⟨xs.length,by simp,Jj _,h0⟩,?_⟩
 rintro i m σ H ⟨rfl,hi,p⟩
 have q:=hl i σ H hi p
 by_cases hlt:i < xs.length
 ·refine .inr ⟨⟨xs,xs[i],q,by simp [hlt]⟩,Pv (i+1),fun σ' H' p'=>⟨xs.length - (i+1),by omega,rfl,hlt,p'⟩,fun x H' y=>?_⟩
  obtain ⟨e,y⟩:=y
  subst e
  exact hs i x σ _ (y xs q) p
 ·have e:i=xs.length:=by omega
  subst e
  exact .inl ⟨⟨xs,q,Qg _⟩,hd σ H p⟩
theorem jK {tb:TS} {σ:St} (Pv:Nat->St->Hp->Prop) (h0:Pv 0 σ H) (hs:∀ i σ H,i < n->Pv i σ H->g (.int (lo+i)) σ H fun σ2 H2=>tb { D with nx:=Pv (i+1),ct:=Pv (i+1),bk:=D.nx } σ2 H2) (hd:∀ σ H,Pv n σ H->D.nx σ H) :
  ∃ W:Nat->Nat->St->Hp->Prop,(∃ m,W 0 m σ H)/\∀ i m σ H,W i m σ H ->
   ((Itr lo n).stop i H/\D.nx σ H)∨((Itr lo n).go i H/\∃ N:St->Hp->Prop,(∀ σ' H',N σ' H'->∃ m',m' < m/\W (i+1) m' σ' H')/\∀ x H',(Itr lo n).yld i H x H'->g x σ H' fun σ2 H2=>tb { D with nx:=N,ct:=N,bk:=D.nx } σ2 H2):=by
 refine ⟨fun i m σ H=>m=n - i/\i<=n/\Pv i σ H,⟨n,by simp,Jj _,h0⟩,?_⟩
 rintro i m σ H ⟨rfl,hi,p⟩
 by_cases hlt:i < n
 ·refine .inr ⟨hlt,Pv (i+1),fun σ' H' p'=>⟨n - (i+1),by omega,rfl,hlt,p'⟩,fun x H' y=>?_⟩
  obtain ⟨e,y⟩:=y
  subst e y
  exact hs i σ _ hlt p
 ·have e:i=n:=by omega
  subst e
  exact .inl ⟨Qg _,hd σ H p⟩
abbrev R2:=V->V->Hp->VK->Prop
def OpR (X:Cx) (f:Value->Value->Sem Value) (r:R2):Prop :=
 ∀ (pins:List (Addr×Obj)) (s:Shared) (σ:St) (H:Hp) (x y:V) (v u:Value) (Q:VK),Inv X pins σ H s->bI x v->bI y u->r x y H Q ->
  wpAny (model X.prog X.w) X.A (f v u) (EP X pins σ Q) X.xe s
def UnR (X:Cx) (f:Value->Sem Value) (r:V->Hp->VK->Prop):Prop :=
 ∀ (pins:List (Addr×Obj)) (s:Shared) (σ:St) (H:Hp) (x:V) (v:Value) (Q:VK),Inv X pins σ H s->bI x v->r x H Q ->
  wpAny (model X.prog X.w) X.A (f v) (EP X pins σ Q) X.xe s
def gQ (X:Cx) (f:Value) (r:List V->Hp->VK->Prop):Prop :=
 ∀ (pins:List (Addr×Obj)) (s:Shared) (σ:St) (H:Hp) (xs:List V) (us:List Value) (Q:VK),Inv X pins σ H s->bJ xs us->r xs H Q ->
  wpAny (model X.prog X.w) X.A (call f us) (EP X pins σ Q) X.xe s
def aHl (X:Cx) (r:V->Hp->(Bool->Hp->Prop)->Prop):Prop :=
 ∀ (pins:List (Addr×Obj)) (s:Shared) (σ:St) (H:Hp) (x:V) (v:Value) (Q:Bool->Hp->Prop),Inv X pins σ H s->bI x v->r x H Q ->
  wpAny (model X.prog X.w) X.A (truthy v) (TP X pins σ Q) X.xe s
def tOp (r:R2) (ta tb:TE):TE:=fun σ H Q=>ta σ H fun x H1=>tb σ H1 fun y H2=>r x y H2 Q
def tUn (r:V->Hp->VK->Prop) (ta:TE):TE:=fun σ H Q=>ta σ H fun x H1=>r x H1 Q
def rI (C:Int->Int->Prop) (g:Int->Int->V):R2:=fun x y H Q=>∃ i j,x=.int i/\y=.int j/\C i j/\Q (g i j) H
def rI0 (g:Int->Int->V):R2:=fun x y H Q=>∃ i j,x=.int i/\y=.int j/\Q (g i j) H
def rU (g:Int->V):V->Hp->VK->Prop:=fun x H Q=>∃ i,x=.int i/\Q (g i) H
section
variable {a b:Expr} {tc:TE} {pos:Pos}
theorem aFz (ha:PE X a ta) (hb:PE X b tb) {σ:St} {R:V->V->Hp->Prop} (I:Inv X pins σ H s) (h:ta σ H fun x H1=>tb σ H1 fun y H2=>R x y H2) {f:Value->Value->Sem Value} (hf:∀ v u s2 x y H2,Inv X pins σ H2 s2->bI x v->bI y u->R x y H2->wpAny (model X.prog X.w) X.A (f v u) Q X.xe s2) :
  wpAny (model X.prog X.w) X.A (eval a X.env) (fun v s₁=>wpAny (model X.prog X.w) X.A (eval b X.env) (fun u s₂=>wpAny (model X.prog X.w) X.A (f v u) Q X.xe s₂) X.xe s₁) X.xe s:=by
 refine thn (ha pins s σ H _ I h) fun v s1 hx9=>?_
 obtain ⟨x,H1,I1,r1,q1⟩:=hx9
 refine thn (hb pins s1 σ H1 _ I1 q1) fun u s2 hx9=>?_
 obtain ⟨y,H2,I2,r2,q2⟩:=hx9
 exact hf v u s2 x y H2 I2 r1 r2 q2
theorem aU {op:Operator} {r:R2} (ho:OpR X (binaryOp op) r) (ha:PE X a ta) (hb:PE X b tb):PE X (.BinOp a op b pos) (tOp r ta tb):=by
 intro pins s σ H Q I h
 exact wpAny_BinOp (aFz ha hb I h fun v u s2 x y H2 I2 rx ry q=>ho pins s2 σ H2 x y v u Q I2 rx ry q)
theorem oK {op:UnaryOp} {r:V->Hp->VK->Prop} (ho:UnR X (unaryOp op) r) (ha:PE X a ta):PE X (.UnaryOp op a pos) (tUn r ta):=by
 intro pins s σ H Q I h
 refine UnaryOp_ (thn (ha pins s σ H _ I h) fun v s1 hx9=>?_)
 obtain ⟨x,H1,I1,r1,q1⟩:=hx9
 exact ho pins s1 σ H1 x v Q I1 r1 q1
theorem opI {f:Value->Value->Sem Value} {C:Int->Int->Prop} {g:Int->Int->Int}
  (rule:∀ (i j:Int) (t u:Tok) (s:Shared) (Q:Value->Shared->Prop) (E:Value->Shared->Prop),C i j->Q (.int (g i j) s.toks) { s with toks:=s.toks+1 }->wpAny (model X.prog X.w) X.A (f (.int i t) (.int j u)) Q E s) :
  OpR X f (rI C fun i j=>.int (g i j)):=by
 intro pins s σ H x y v u Q I rx ry h
 obtain ⟨i,j,rfl,rfl,hc,q⟩:=h
 obtain ⟨t,rfl⟩:=rx
 obtain ⟨t',rfl⟩:=ry
 exact rule i j t t' s _ _ hc ⟨.int (g i j),H,I.tok _,⟨_,rfl⟩,q⟩
theorem aGB {f:Value->Value->Sem Value} {g:Int->Int->Int}
  (rule:∀ (i j:Int) (t u:Tok) (s:Shared) (Q:Value->Shared->Prop) (E:Value->Shared->Prop),Q (.int (g i j) s.toks) { s with toks:=s.toks+1 }->wpAny (model X.prog X.w) X.A (f (.int i t) (.int j u)) Q E s) :
  OpR X f (rI0 fun i j=>.int (g i j)):=by
 intro pins s σ H x y v u Q I rx ry h
 obtain ⟨i,j,rfl,rfl,q⟩:=h
 obtain ⟨t,rfl⟩:=rx
 obtain ⟨t',rfl⟩:=ry
 exact rule i j t t' s _ _ ⟨.int (g i j),H,I.tok _,⟨_,rfl⟩,q⟩
theorem aD0 {f:Value->Value->Sem Value} {g:Int->Int->Bool}
  (rule:∀ (i j:Int) (t u:Tok) (s:Shared) (Q:Value->Shared->Prop) (E:Value->Shared->Prop),Q (.bool (g i j)) s->wpAny (model X.prog X.w) X.A (f (.int i t) (.int j u)) Q E s) :
  OpR X f (rI0 fun i j=>.bl (g i j)):=by
 intro pins s σ H x y v u Q I rx ry h
 obtain ⟨i,j,rfl,rfl,q⟩:=h
 obtain ⟨t,rfl⟩:=rx
 obtain ⟨t',rfl⟩:=ry
 exact rule i j t t' s _ _ ⟨.bl (g i j),H,I,rfl,q⟩
def aHm (i j:Int):Prop:=0 < j/\j < 1073741824
def aHn (i j:Int):Prop:=0<=j/\j<=1000000/\i.natAbs < 2^64
def aFA (i j:Int):Prop:=(-(2^64) < i/\i < 2^64)∨(-(2^64) < j/\j < 2^64)
theorem aFA.ok {i j:Int} (h:aFA i j):IntMulOk i j:=by
 rcases h with ⟨h1,h2⟩ | ⟨h1,h2⟩
 ·exact .of_left (intBits_le_64 h1 h2)
 ·exact .of_right (intBits_le_64 h1 h2)
theorem eJ:OpR X (binaryOp .Add) (rI0 fun i j=>.int (i+j)):=aGB fun _ _ _ _ _ _ _ q=>add_int q
theorem vV:OpR X (binaryOp .Sub) (rI0 fun i j=>.int (i - j)):=aGB fun _ _ _ _ _ _ _ q=>sub_int q
theorem rZ:OpR X (binaryOp .Mult) (rI aFA fun i j=>.int (i*j)):=opI fun _ _ _ _ _ _ _ hc q=>mul_int q hc.ok
theorem aD1:OpR X (binaryOp .FloorDiv) (rI aHm fun i j=>.int (i / j)):=opI fun i j _ _ _ _ _ hc q=>by
 have h1:(0:Int) < j:=hc.1
 have h2:j < 1073741824:=hc.2
 exact floordiv_int (by omega) (by rw [Zs i (by omega)]; exact q) (.inl (PyProof.noPylong_small (by omega)))
theorem nU:OpR X (binaryOp .Mod) (rI (fun _ j=>0 < j) fun i j=>.int (i % j)):=opI fun i j _ _ _ _ _ hc q=>by
 have h1:(0:Int) < j:=hc
 exact mod_int' (by omega) (by rw [Int.fmod_eq_emod_of_nonneg i (by omega)]; exact q)
theorem aFB:OpR X (binaryOp .Pow) (rI aHn fun i j=>.int (i^j.toNat)):=opI fun _ _ _ _ _ _ _ hc q=>pow_int_small hc.1 hc.2.1 hc.2.2 q
theorem unI {f:Value->Sem Value} {g:Int->Int}
  (rule:∀ (i:Int) (t:Tok) (s:Shared) (Q:Value->Shared->Prop) (E:Value->Shared->Prop),Q (.int (g i) s.toks) { s with toks:=s.toks+1 }->wpAny (model X.prog X.w) X.A (f (.int i t)) Q E s) :
  UnR X f (rU fun i=>.int (g i)):=by
 intro pins s σ H x v Q I rx h
 obtain ⟨i,rfl,q⟩:=h
 obtain ⟨t,rfl⟩:=rx
 exact rule i t s _ _ ⟨.int (g i),H,I.tok _,⟨_,rfl⟩,q⟩
theorem lE:UnR X (unaryOp .USub) (rU fun i=>.int (-i)):=unI fun _ _ _ _ _ q=>neg_int q
def aGC:V->V->Bool
 | .non,.non=>true | .non,.int _=>true | .int _,.non=>true | .non,.bl _=>true | .bl _,.non=>true | .non,.str _=>true | .str _,.non=>true
 | .int _,.int _=>true | .bl _,.bl _=>true | .str _,.str _=>true | .byt _,.byt _=>true
 | .int _,.str _=>true | .str _,.int _=>true | .bl _,.str _=>true | .str _,.bl _=>true
 | _,_=>false
def rEq:R2:=fun x y H Q=>aGC x y=true/\Q (.bl (decide (x=y))) H
def rNe:R2:=fun x y H Q=>aGC x y=true/\Q (.bl (!decide (x=y))) H
theorem aAI {i j:Int}:decide (V.int i=V.int j)=(i==j):=by
 rw [Xf]
 simp
theorem aCv {i j:Bool}:decide (V.bl i=V.bl j)=(i==j):=by
 rw [Xf]
 simp
theorem aAJ {i j:Str}:decide (V.str i=V.str j)=(i==j):=by
 rw [Xf]
 simp
theorem aAK {i j:Array UInt8}:decide (V.byt i=V.byt j)=(i.toList==j.toList):=by
 rw [Xf]
 cases i
 cases j
 simp
theorem cG {σ:St} {Q:VK} {k k':Bool} (I:Inv X pins σ H s) (q:Q (.bl k) H) (e:k=k'):EP X pins σ Q (.bool k') s:=by
 subst e
 exact ⟨.bl k,H,I,rfl,q⟩
theorem xV:OpR X (compareOp .Eq) rEq:=by
 intro pins s σ H x y v u Q I rx ry h
 obtain ⟨hs,q⟩:=h
 cases x with
 | non =>
  cases rx
  cases y with
  | non=>cases ry; exact PySem.EqNone.eq_none_none (cG I q (by simp))
  | bl j=>cases ry; exact PySem.EqNone.eq_none_bool (cG I q (by simp))
  | int j=>obtain ⟨t',rfl⟩:=ry; exact PySem.EqNone.eq_none_int (cG I q (by simp))
  | str j=>obtain ⟨t',rfl⟩:=ry; exact PySem.EqNone.eq_none_str (cG I q (by simp))
  | _=>exact absurd (show false=true from hs) Qx
 | bl i =>
  cases rx
  cases y with
  | non=>cases ry; exact PySem.EqNone.eq_bool_none (cG I q (by simp))
  | bl j=>cases ry; exact eq_bool (cG I q aCv)
  | str j=>obtain ⟨t',rfl⟩:=ry; exact PySem.EqMixed.eq_bool_str (cG I q (by simp))
  | _=>exact absurd (show false=true from hs) Qx
 | int i =>
  obtain ⟨t,rfl⟩:=rx
  cases y with
  | non=>cases ry; exact PySem.EqNone.eq_int_none (cG I q (by simp))
  | int j=>obtain ⟨t',rfl⟩:=ry; exact eq_int (cG I q aAI)
  | str j=>obtain ⟨t',rfl⟩:=ry; exact PySem.EqMixed.eq_int_str (cG I q (by simp))
  | _=>exact absurd (show false=true from hs) Qx
 | str i =>
  obtain ⟨t,rfl⟩:=rx
  cases y with
  | non=>cases ry; exact PySem.EqNone.eq_str_none (cG I q (by simp))
  | bl j=>cases ry; exact PySem.EqMixed.eq_str_bool (cG I q (by simp))
  | int j=>obtain ⟨t',rfl⟩:=ry; exact PySem.EqMixed.eq_str_int (cG I q (by simp))
  | str j=>obtain ⟨t',rfl⟩:=ry; exact eq_str (cG I q aAJ)
  | _=>exact absurd (show false=true from hs) Qx
 | byt i =>
  obtain ⟨t,rfl⟩:=rx
  cases y with
  | byt j=>obtain ⟨t',rfl⟩:=ry; exact PySem.W.eq_bytes (cG I q aAK)
  | _=>exact absurd (show false=true from hs) Qx
 | _=>cases y <;> exact absurd (show false=true from hs) Qx
theorem mC:OpR X (compareOp .NotEq) rNe:=by
 intro pins s σ H x y v u Q I rx ry h
 obtain ⟨hs,q⟩:=h
 cases x with
 | non =>
  cases rx
  cases y with
  | non=>cases ry; exact PySem.EqNone.ne_none_none (cG I q (by simp))
  | bl j=>cases ry; exact PySem.EqNone.ne_none_bool (cG I q (by simp))
  | int j=>obtain ⟨t',rfl⟩:=ry; exact PySem.EqNone.ne_none_int (cG I q (by simp))
  | str j=>obtain ⟨t',rfl⟩:=ry; exact PySem.EqNone.ne_none_str (cG I q (by simp))
  | _=>exact absurd (show false=true from hs) Qx
 | bl i =>
  cases rx
  cases y with
  | non=>cases ry; exact PySem.EqNone.ne_bool_none (cG I q (by simp))
  | bl j=>cases ry; exact ne_bool (cG I q (congrArg not aCv))
  | str j=>obtain ⟨t',rfl⟩:=ry; exact PySem.EqMixed.ne_bool_str (cG I q (by simp))
  | _=>exact absurd (show false=true from hs) Qx
 | int i =>
  obtain ⟨t,rfl⟩:=rx
  cases y with
  | non=>cases ry; exact PySem.EqNone.ne_int_none (cG I q (by simp))
  | int j=>obtain ⟨t',rfl⟩:=ry; exact ne_int (cG I q (congrArg not aAI))
  | str j=>obtain ⟨t',rfl⟩:=ry; exact PySem.EqMixed.ne_int_str (cG I q (by simp))
  | _=>exact absurd (show false=true from hs) Qx
 | str i =>
  obtain ⟨t,rfl⟩:=rx
  cases y with
  | non=>cases ry; exact PySem.EqNone.ne_str_none (cG I q (by simp))
  | bl j=>cases ry; exact PySem.EqMixed.ne_str_bool (cG I q (by simp))
  | int j=>obtain ⟨t',rfl⟩:=ry; exact PySem.EqMixed.ne_str_int (cG I q (by simp))
  | str j=>obtain ⟨t',rfl⟩:=ry; exact ne_str (cG I q (congrArg not aAJ))
  | _=>exact absurd (show false=true from hs) Qx
 | byt i =>
  obtain ⟨t,rfl⟩:=rx
  cases y with
  | byt j=>obtain ⟨t',rfl⟩:=ry; exact PySem.W.ne_bytes (cG I q (congrArg not aAK))
  | _=>exact absurd (show false=true from hs) Qx
 | _=>cases y <;> exact absurd (show false=true from hs) Qx
theorem aCw:OpR X (compareOp .Lt) (rI0 fun i j=>.bl (decide (i < j))):=aD0 fun _ _ _ _ _ _ _ q=>lt_int q
theorem uV:OpR X (compareOp .LtE) (rI0 fun i j=>.bl (decide (i<=j))):=aD0 fun _ _ _ _ _ _ _ q=>le_int q
theorem mD:OpR X (compareOp .Gt) (rI0 fun i j=>.bl (decide (j < i))):=aD0 fun _ _ _ _ _ _ _ q=>gt_int q
theorem xW:OpR X (compareOp .GtE) (rI0 fun i j=>.bl (decide (j<=i))):=aD0 fun _ _ _ _ _ _ _ q=>ge_int q
theorem bK (b:Expr) (h:op≠.In:=by decide) (h2:op≠.NotIn:=by decide):behindInMarks op b=false:=by
 have e1:(op==CmpOp.In)=false:=by cases op <;> first | rfl | exact absurd rfl h
 have e2:(op==CmpOp.NotIn)=false:=by cases op <;> first | rfl | exact absurd rfl h2
 cases b <;> simp [behindInMarks,e1,e2]
theorem gB {r:R2} (ho:OpR X (compareOp op) r) (ha:PE X a ta) (hb:PE X b tb) (hm:behindInMarks op b=false):PE X (.Compare a [op] [b] pos) (tOp r ta tb):=by
 intro pins s σ H Q I h
 exact wpAny_Compare1 (aFz ha hb I h fun v u s2 x y H2 I2 rx ry q=>ho pins s2 σ H2 x y v u Q I2 rx ry q) hm
def aGD (t:TE):TT:=fun σ H Q=>t σ H fun x H'=>∃ k,x=.bl k/\Q k H'
theorem bF {r:R2} (ho:OpR X (compareOp op) r) (ha:PE X a ta) (hb:PE X b tb) (hm:behindInMarks op b=false):PT X (.Compare a [op] [b] pos) (aGD (tOp r ta tb)):=by
 intro pins s σ H Q I h
 refine wpAny_isTrue_Compare1 (thn (ha pins s σ H _ I h) fun v s1 ⟨x,H1,I1,r1,q1⟩=>thn (hb pins s1 σ H1 _ I1 q1) fun u s2 ⟨y,H2,I2,r2,q2⟩ =>
  thn (ho pins s2 σ H2 x y v u _ I2 r1 r2 q2) fun c s3 ⟨z,H3,I3,r3,k,e,q3⟩=>?_) hm
 subst e
 cases r3
 exact wpAny_truthy_bool ⟨H3,I3,q3⟩
def aFC (r r':R2) (ta tb tc:TE):TE:=fun σ H Q=>ta σ H fun x H1=>tb σ H1 fun y H2=>r x y H2 fun z H3=>∃ k,z=.bl k /\
 (if k=true then tc σ H3 fun w' H4=>r' y w' H4 Q else Q (.bl false) H3)
theorem xX {op':CmpOp} {r r':R2} (ho:OpR X (compareOp op) r) (ho':OpR X (compareOp op') r') (ha:PE X a ta) (hb:PE X b tb) (hc:PE X c tc) (hm:lastMarks [op,op'] [b,c]=false:=by with_unfolding_all rfl):PE X (.Compare a [op,op'] [b,c] pos) (aFC r r' ta tb tc):=by
 intro pins s σ H Q I h
 refine Compare_chain (thn (ha pins s σ H _ I h) fun v s1 ⟨x,H1,I1,r1,q1⟩=>chain_link (thn (hb pins s1 σ H1 _ I1 q1) fun u s2 ⟨y,H2,I2,r2,q2⟩ =>
  thn (ho pins s2 σ H2 x y v u _ I2 r1 r2 q2) fun d s3 ⟨z,H3,I3,r3,k,e,q3⟩=>?_)) hm
 subst e
 cases r3
 refine wpAny_truthy_bool ?_
 cases k with
 | false=>exact ite_ff ⟨.bl false,H3,I3,rfl,q3⟩
 | true=>exact ite_tt (chain_last (thn (hc pins s3 σ H3 _ I3 q3) fun w' s4 ⟨z',H4,I4,r4,q4⟩=>ho' pins s4 σ H4 y z' u w' Q I4 r2 r4 q4))
def aGE (K:PySem.W.Frag) (x:V) (H:Hp) (k:Bool):Prop :=
 match x with
 | .non=>k=false
 | .bl b=>k=b
 | .int i=>k=(i !=0)
 | .str y=>y.length<=sizeLine/\k=((y.length:Int) !=0)
 | .byt y=>y.size<=sizeLine/\k=((y.size:Int) !=0)
 | .ref p=>(∃ xs,SqL K H p xs/\k=!xs.isEmpty)∨(∃ xs,SqT K H p xs/\k=!xs.isEmpty)∨∃ kvs,H p=some (.dK kvs)/\k=!kvs.isEmpty
 | _=>False
theorem aAb {kvs:List (κ×V)} {vs:List (κ×Value)} (r:KV kvs vs):(!vs.isEmpty)=!kvs.isEmpty:=by
 cases r <;> rfl
theorem sD {its:List Value} (r:bJ xs its):(!its.toArray.isEmpty)=!xs.isEmpty:=by
 cases r <;> simp
theorem sF:(sizeLine:Nat) < 2^63:=by rw [sizeLine_eq]; decide
theorem aFD:aHl X (fun x H Q=>∃ k,aGE X.K x H k/\Q k H):=by
 intro pins s σ H x v Q I rx h
 obtain ⟨k,e,q⟩:=h
 have hl:=sF
 have hs:sizeLine=16777216:=sizeLine_eq
 cases x with
 | non =>
  cases rx
  have e':k=false:=e
  subst e'
  exact truthy_none ⟨H,I,q⟩
 | bl b =>
  cases rx
  have e':k=b:=e
  subst e'
  exact wpAny_truthy_bool ⟨H,I,q⟩
 | int i =>
  obtain ⟨t,rfl⟩:=rx
  have e':k=(i !=0):=e
  subst e'
  exact PySem.P.truthy_int ⟨H,I,q⟩
 | str y =>
  obtain ⟨t,rfl⟩:=rx
  obtain ⟨hy,e'⟩:y.length<=sizeLine/\k=((y.length:Int) !=0):=e
  subst e'
  exact PySem.P.truthy_str (by omega) ⟨H,I.tok _,q⟩
 | byt y =>
  obtain ⟨t,rfl⟩:=rx
  obtain ⟨hy,e'⟩:y.size<=sizeLine/\k=((y.size:Int) !=0):=e
  subst e'
  exact PySem.W.truthy_bytes (by omega) ⟨H,I.tok _,q⟩
 | ref p =>
  cases rx
  have e':(∃ xs,SqL X.K H p xs/\k=!xs.isEmpty)∨(∃ xs,SqT X.K H p xs/\k=!xs.isEmpty)∨∃ kvs,H p=some (.dK kvs)/\k=!kvs.isEmpty:=e
  rcases e' with ⟨xs,hx,e'⟩ | ⟨xs,hx,e'⟩ | ⟨kvs,hx,e'⟩
  ·subst e'
   obtain ⟨its,r,pl,hz⟩:=I.list hx
   have hlen:=r.length
   exact wpAny_truthy_list pl.isList (by simp only [Qk]; omega) ⟨H,I.tok _,by rw [sD r]; exact q⟩
  ·subst e'
   obtain ⟨its,r,pl,hz⟩:=I.tuple hx
   have hlen:=r.length
   exact truthy_tuple pl (by simp only [Qk]; omega) ⟨H,I.tok _,by rw [sD r]; exact q⟩
  ·subst e'
   obtain ⟨hz,hS,vs,r,m⟩:kvs.length<=sizeLine/\(p==sysModules)=false/\∃ vs,KV kvs vs/\s.heap.DictOf (bL X.prog X.w) p vs:=I.hok p _ hx
   have hlen:kvs.length=vs.length:=Paired.length r
   exact wpAny_truthy_dict hS m (by omega) ⟨H,I.tok _,by rw [aAb r]; exact q⟩
 | _=>exact (show False from e).elim
theorem xY (ha:PE X a ta) (he:∀ whole,isTrue a X.env whole=(do let v<-whole; standAt a.pos; holding [v] (truthy v))) :
  PT X a (fun σ H Q=>ta σ H fun x H'=>∃ k,aGE X.K x H' k/\Q k H'):=by
 intro pins s σ H Q I h
 refine isTrue_plain (thn (ha pins s σ H _ I h) fun v s1 hx9=>?_) (he _)
 obtain ⟨x,H1,I1,r1,q1⟩:=hx9
 exact aFD pins s1 σ H1 x v Q I1 r1 q1
theorem kJ {x:V} (r:bJ [x] us):∃ u,us = [u]/\bI x u:=by
 cases r with
 | cons r1 r2=>cases r2; exact ⟨_,rfl,r1⟩
theorem mE {x:V} (r:bJ [x,y] us):∃ u w',us = [u,w']/\bI x u/\bI y w':=by
 cases r with
 | cons r1 r2 =>
  cases r2 with
  | cons r3 r4=>cases r4; exact ⟨_,_,rfl,r1,r3⟩
theorem aBy (hc:X.calm=true):gQ X (.builtin "max") (fun xs H Q=>∃ i j,xs = [.int i,.int j]/\Q (.int (if j > i then j else i)) H):=by
 intro pins s σ H xs us Q I r h
 obtain ⟨i,j,rfl,q⟩:=h
 obtain ⟨u,w',rfl,⟨t,rfl⟩,⟨t',rfl⟩⟩:=mE r
 refine max_two_ints (I.ok.hd hc) fun h' tk k=>⟨_,H,I.kept k,?_,q⟩
 by_cases hj:j > i
 ·rw [if_pos hj,if_pos hj]; exact ⟨_,rfl⟩
 ·rw [if_neg hj,if_neg hj]; exact ⟨_,rfl⟩
theorem aBz (hc:X.calm=true):gQ X (.builtin "min") (fun xs H Q=>∃ i j,xs = [.int i,.int j]/\Q (.int (if j < i then j else i)) H):=by
 intro pins s σ H xs us Q I r h
 obtain ⟨i,j,rfl,q⟩:=h
 obtain ⟨u,w',rfl,⟨t,rfl⟩,⟨t',rfl⟩⟩:=mE r
 refine min_two_ints (I.ok.hd hc) fun h' tk k=>⟨_,H,I.kept k,?_,q⟩
 by_cases hj:j < i
 ·rw [if_pos hj,if_pos hj]; exact ⟨_,rfl⟩
 ·rw [if_neg hj,if_neg hj]; exact ⟨_,rfl⟩
theorem aBA:gQ X (.type "int") (fun xs H Q=>(∃ i,xs = [.int i]/\Q (.int i) H)∨∃ k,xs = [.bl k]/\Q (.int (if k then 1 else 0)) H):=by
 intro pins s σ H xs us Q I r h
 rcases h with ⟨i,rfl,q⟩ | ⟨k,rfl,q⟩
 ·obtain ⟨u,rfl,t,rfl⟩:=kJ r
  exact call_int_int ⟨.int i,H,I,⟨_,rfl⟩,q⟩
 ·obtain ⟨u,rfl,r1⟩:=kJ r
  cases r1
  exact call_int_bool ⟨.int (if k then 1 else 0),H,I.tok _,⟨_,rfl⟩,q⟩
end
structure ObjM (h:Heap) (x dx C:Addr) (mA:Str->Option Value):Prop where
 obj:h.get? x=some (PySem.W.instObj C dx)
 ns:h.Ns1 dx mA
 ne:dx≠x
section
variable {x:Addr} {mA:Str->Option Value} {v:Value}
end
theorem rE.some_of {o:Option Value} (r:rE (some v) o):∃ u,o=some u/\bI v u:=by
 cases o with
 | none=>exact (show False from r).elim
 | some u=>exact ⟨u,rfl,r⟩
section
variable {fs fs':List (Str×V)}
end
structure Cls (K:PySem.W.Frag) (C:Addr):Prop where
 pg:PySem.W.plainGet K C Str.empty=true
 hd:PySem.W.hasDictIn K C=true
 po:PySem.W.plainOver K C=true
 sa:PySem.W.findIn K (.ref C) "__setattr__" = some (some (.builtin "object.__setattr__"))
theorem Cls.get (c:Cls K C) (f:Str):PySem.W.plainGet K C f=true:=c.pg
def aCx (K:PySem.W.Frag) (C:Addr) (f:Str):Prop:=PySem.W.findIn K (.ref C) f=some none
theorem aCx.taker {f:Str} (n:aCx K C f):PySem.W.takerIn K C f=some none:=by
 unfold PySem.W.takerIn
 rw [show PySem.W.findIn K (.ref C) f=some none from n]
 rfl
structure Con (K:PySem.W.Frag) (C:Addr) (f:Str) (v:V) (u:Value):Prop where
 at_:PySem.W.findIn K (.ref C) f=some (some u)
 rel:bI v u
 get:PySem.W.specialIn K u "__get__" = some none
 cp:PySem.W.copiedNames.contains f=false
structure Meth (K:PySem.W.Frag) (C:Addr) (m:Str) (f:Addr):Prop where
 at_:PySem.W.findIn K (.ref C) m=some (some (.ref f))
 fn:PySem.W.isFn K (.ref f)=true
 kp:PySem.W.keepIn K (.ref f)=true
section
variable {σ:St} {fs:List (Str×V)} {f:Str}
end
def aGF (X:Cx) (op:Operator) (rd:V->V->Hp->VK->Prop):Prop :=
 ∀ (pins:List (Addr×Obj)) (s:Shared) (σ:St) (H:Hp) (x y:V) (u v:Value) (Q:VK),Inv X pins σ H s->bI x u->bI y v->rd x y H Q->wpAny (model X.prog X.w) X.A (inplaceOp op u v) (EP X pins σ Q) X.xe s
section
variable {o:Expr} {f:Str} {pos:Pos}
def aHo:V->V->Hp->VK->Prop:=fun x y H Q=>∃ i j,x=.int i/\y=.int j/\Q (.int (i - j)) H
theorem aFE:aGF X .Sub aHo:=by
 rintro pins s σ H x y u v Q I rx ry ⟨i,j,rfl,rfl,q⟩
 obtain ⟨t,rfl⟩:=(show ∃ t,u=Value.int i t from rx)
 obtain ⟨t',rfl⟩:=(show ∃ t',v=Value.int j t' from ry)
 exact PyProof.Rows.isub_int ⟨.int (i - j),H,I.tok _,⟨_,rfl⟩,q⟩
end
section
variable {σ:St} {c:Value} {b:Bool}
inductive TyOf (K:PySem.W.Frag) (H:Hp):V->Value->Prop where
 | non:TyOf K H .non (.type "NoneType")
 | bl (x:Bool):TyOf K H (.bl x) (.type "bool")
 | int (i:Int):TyOf K H (.int i) (.type "int")
 | str (x:Str):TyOf K H (.str x) (.type "str")
 | flt (x:UInt64):TyOf K H (.flt x) (.type "float")
 | lst {a:Addr} {xs:List V} (e:H a=some (.lst xs)):TyOf K H (.ref a) (.type "list")
 | frz {a:Addr} {o:Obj} {xs:List V} (e:H a=some (.frz o (.lst xs))):TyOf K H (.ref a) (.type "list")
 | tup {a:Addr} {xs:List V} (e:H a=some (.tup xs)):TyOf K H (.ref a) (.type "tuple")
 | dK {a:Addr} {kvs:List (Key×V)} (e:H a=some (.dK kvs)):TyOf K H (.ref a) (.type "dict")
 | dT {a:Addr} {kvs:List (List Key×V)} (e:H a=some (.dT kvs)):TyOf K H (.ref a) (.type "dict")
 | ins {a C dx:Addr} {fs:List (Str×V)} (e:H a=some (.ins C dx fs)) (cl:Cls K C) (ha:PySem.W.findIn K (.ref C) "__class__" = some (some (.builtin "object.__class__")))
   (hn:PySem.W.specialIn K (.builtin "object.__class__") "__get__" = some (some (.builtin "getset_descriptor.__get__"))) (htk:PySem.W.takesIn K (.builtin "object.__class__")=some true)
   (hm:PySem.W.mroIn K C (.type "object")=some true):TyOf K H (.ref a) (.ref C)
end
structure Room (k:Nat) (A:Around):Prop where
 hd:A.handled=none
 dp:A.depth+3*k+5 < recursionLimit
 un:A.units+16*k+200 < cLine
 gd:A.guards=some []
theorem Room.mono {k:Nat} (r:Room k A) (h:j<=k):Room j A:=⟨r.hd,by have:=r.dp; omega,by have:=r.un; omega,r.gd⟩
theorem Room.deeper {k:Nat} (r:Room (k+1) A) (env:Env):Room k (A.deeper env) :=
 ⟨r.hd,by have:=r.dp; show A.depth+1+3*k+5 < _; omega,by have:=r.un; show A.units+3+16*k+200 < _; omega,r.gd⟩
theorem Room.in1 {k:Nat} (r:Room (k+1) A):Room k A.in1 :=
 ⟨r.hd,by have:=r.dp; show A.depth+3*k+5 < _; omega,by have:=r.un; show A.units+1+16*k+200 < _; omega,r.gd⟩
theorem Room.depth {k:Nat} (r:Room k A):A.depth < recursionLimit:=by have:=r.dp; omega
theorem Room.units {k:Nat} (r:Room k A):A.units+64 < cLine:=by have:=r.un; omega
abbrev rF:TA:=fun _ H Q=>Q [] H
abbrev nP (ta:TE) (tr:TA):TA:=fun σ H Q=>ta σ H fun x H1=>tr σ H1 fun xs H2=>Q (x::xs) H2
section
variable {t:TA} {pos:Pos}
theorem aC:PA X [] rF:=fun _ _ _ _ H Q I h=>Calls.spliced_nil ⟨[],H,I,.nil,h⟩
theorem aA (ha:PE X e te) (hr:PA X es t) (hs:starEach (e::es) X.env=(false,eval e X.env)::starEach es X.env:=by rfl):PA X (e::es) (nP te t):=by
 intro pos pins s σ H Q I h
 rw [hs]
 show wpAny _ _ (spliced ((false,eval e X.env)::backTo pos (starEach es X.env))) _ _ s
 refine Calls.spliced_cons (thn (ha pins s σ H _ I h) fun u s1 hx9=>?_)
 obtain ⟨x,H1,I1,r1,q1⟩:=hx9
 refine thn (hr pos pins s1 σ H1 _ I1 q1) fun us s2 hx9=>?_
 obtain ⟨xs,H2,I2,r2,q2⟩:=hx9
 exact ⟨x::xs,H2,I2,.cons r1 r2,q2⟩
def aD2 (t:TA):TE:=fun σ H Q=>t σ H fun xs H1=>xs.length<=sizeLine/\∀ p,H1 p=none->Q (.ref p) (upd H1 p (.tup xs))
def aAc (t:TA):TE:=fun σ H Q=>t σ H fun xs H1=>xs.length<=sizeLine/\∀ p,H1 p=none->Q (.ref p) (upd H1 p (.lst xs))
theorem bG {x1} (h:PA X es t):PE X (.Tuple es x1 pos) (aD2 t):=by
 intro pins s σ H Q I hq
 refine wpAny_Tuple_spliced (thn (h pos pins s σ H _ I hq) fun us s1 ⟨xs,H1,I1,r,z,q⟩=>⟨by rw [<- r.length]; exact z,?_⟩)
 have hf:H1 s1.heap.objs.size=none:=I1.hok.fresh (Qg _)
 refine ⟨.ref s1.heap.objs.size,upd H1 s1.heap.objs.size (.tup xs),I1.laid (t':=s1.toks) (fun b u e=>Qa _ e) (Qg _) ?_,rfl,q _ hf⟩
 exact ⟨z,us,0,r,Qm _ rfl⟩
theorem cI (h:PA X es t):PE X (.List es pos) (aAc t):=by
 intro pins s σ H Q I hq
 refine wpAny_List_spliced (thn (h pos pins s σ H _ I hq) fun us s1 ⟨xs,H1,I1,r,z,q⟩=>⟨by rw [<- r.length]; exact z,?_⟩)
 have hf:H1 s1.heap.objs.size=none:=I1.hok.fresh (Qg _)
 refine ⟨.ref s1.heap.objs.size,upd H1 s1.heap.objs.size (.lst xs),I1.laid (t':=s1.toks) (fun b u e=>Qa _ e) (Qg _) ?_,rfl,q _ hf⟩
 exact ⟨z,us,0,r,Qm _ rfl⟩
end
abbrev Sp:=List V->Hp->VK->XK->Prop
end L2
variable {sp:Sp}
namespace L2
open PySem PySem.Spec PyProof.Rows
abbrev CXT:=List Env->Hp->Shared->XK->Value->Shared->Prop
end L2
variable {CX:CXT}
namespace L2
open PySem PySem.Spec PyProof.Rows
structure Env0 (P:Program) (w:World) (K:PySem.W.Frag) (mg:Str->Option Value) (base:Heap) (A:Around) (outer:List Env) (s:Shared) (H:Hp):Prop where
 frames:A.frames=some outer
 mod:Mod K mg base
 bs:∀ b o,base.get? b=some o->s.heap.get? b=some o/\H b=none
 bsz:base.objs.size<=s.heap.objs.size
 funs:s.heap.FunFrames base outer
 frf:∀ b∈frs outer,H b=none
 hok:HOk P w H s.heap
 bare:AllBare s.gens
def CE (outer:List Env) (P:Program) (w:World) (H:Hp) (s:Shared) (Q:VK) (u:Value) (s':Shared):Prop :=
 ∃ v H',s'.os=s.os/\AllBare s'.gens/\Un (frs outer) [] H H' s.heap s'.heap/\HOk P w H' s'.heap/\bI v u/\Q v H'
def CR (CX:CXT) (outer:List Env) (P:Program) (w:World) (H:Hp) (s:Shared) (Q:VK) (E:XK) (r:Result) (s':Shared):Prop :=
 match r with
 | .ok (.ret u)=>CE outer P w H s Q u s'
 | .ok _=>False
 | .error e=>CX outer H s E e s'
structure FnOk (P:Program) (w:World) (K:PySem.W.Frag) (mg:Str->Option Value) (base:Heap) (CX:CXT) (k:Nat) (f:Addr) (fd:FuncData) (ps:List Str) (sp:Sp):Prop where
 len:∀ vs H Q E,sp vs H Q E->vs.length=ps.length
 run:∀ (A:Around) (outer:List Env) (s:Shared) (H:Hp) (args:Args) (us:List Value) (vs:List V) (Q:VK) (E:XK),Room k A->Env0 P w K mg base A outer s H->BindsTo s fd args (ps.zip us)->bJ vs us->sp vs H Q E ->
  codeAny (model P w) A (.call (.ref f) args) (CR CX outer P w H s Q E) s
theorem FnOk.mono {k:Nat} (F:FnOk P w K mg base CX j f fd ps sp) (h:j<=k) :
  FnOk P w K mg base CX k f fd ps sp:=⟨F.len,fun A outer s H args us vs Q E hr=>F.run A outer s H args us vs Q E (hr.mono h)⟩
theorem FnOk.imp {k:Nat} {sp':Sp} (F:FnOk P w K mg base CX k f fd ps sp) (h:∀ vs H Q E,sp' vs H Q E->sp vs H Q E):FnOk P w K mg base CX k f fd ps sp' :=
 ⟨fun vs H Q E q=>F.len vs H Q E (h _ _ _ _ q),fun A outer s H args us vs Q E hr he hb hv hs=>F.run A outer s H args us vs Q E hr he hb hv (h _ _ _ _ hs)⟩
theorem Env0.in1 (e:Env0 P w K mg base A outer s H) :
  Env0 P w K mg base A.in1 outer s H:=⟨e.frames,e.mod,e.bs,e.bsz,e.funs,e.frf,e.hok,e.bare⟩
section
variable {σ:St}
theorem Inv.env0 (I:Inv X pins σ H s):Env0 X.prog X.w X.K X.mg X.base X.A X.stack s H :=
 ⟨I.ok.frames,I.ok.mod,I.bs,Qu I.ok.bsz I.sz,I.stack,I.stkFree,I.hok,I.bare⟩
theorem Inv.after {Q:VK} (I:Inv X pins σ H s) (h:CE X.stack X.prog X.w H s Q u s'):EP X pins σ Q u s':=by
 obtain ⟨v,H',os,bare,un,hok,r,q⟩:=h
 obtain ⟨hh,g,d,t,os'⟩:=s'
 obtain rfl:os'=s.os:=os
 exact ⟨v,H',I.call (h':=hh) (g':=g) (d':=d) (t':=t) (ch:=[]) un hok bare (fun b z=>absurd z (by simp)),r,q⟩
end
def aFb (sp:Sp) (dvs:List V) (E:XK) (t:TA):TE:=fun σ H Q=>t σ H fun vs H1=>sp (vs++dvs) H1 Q E
def uW (K:PySem.W.Frag) (fd:FuncData) (ps:List Str) (ds:List Value):Prop :=
 ∀ (s:Shared) (us:List Value),K.In s.heap->(us++ds).length=ps.length->BindsTo s fd ⟨us,[]⟩ (ps.zip (us++ds))
theorem uW.all (h:∀ us:List Value,us.length=ps.length->bindArgs fd ⟨us,[]⟩=pure (ps.zip us)):uW K fd ps []:=fun s us _ hl=>by
 rw [Xe] at hl ⊢
 exact .of_eq (h us hl)
def aAd (CX:CXT) (X:Cx) (E:XK):Prop:=∀ (pins:List (Addr×Obj)) (σ:St) (H:Hp) (s:Shared) (e:Value) (s':Shared),Inv X pins σ H s->CX X.stack H s E e s'->X.xe e s'
section
variable {k:Nat} {dvs:List V} {ds:List Value} {E:XK} {m:Str} {p pos:Pos} {o:Expr} {t:TA}
theorem aFF {σ:St} {Q:VK} (F:FnOk X.prog X.w X.K X.mg X.base CX k f fd ps sp) (hr:Room k X.A) (hb:uW X.K fd ps ds) (hd:bJ dvs ds) (hx:aAd CX X E) (I:Inv X pins σ H s) (r:bJ vs us) (h:sp (vs++dvs) H Q E):wpAny (model X.prog X.w) X.A (call (.ref f) us) (EP X pins σ Q) X.xe s:=by
 have r2:bJ (vs++dvs) (us++ds):=r.append hd
 have hl:(us++ds).length=ps.length:=by rw [<- r2.length]; exact F.len _ _ _ _ h
 refine wpAny_call (codeAny_mono (F.run X.A X.stack s H ⟨us,[]⟩ (us++ds) (vs++dvs) Q E hr I.env0 (hb s us I.kIn hl) r2 h) fun r s' hq=>?_)
 cases r with
 | error e=>exact hx pins σ H s e s' I hq
 | ok fl =>
  cases fl with
  | ret u=>exact I.after hq
  | next=>exact False.elim hq
  | brk=>exact False.elim hq
  | cont=>exact False.elim hq
theorem aD3 (F:FnOk X.prog X.w X.K X.mg X.base CX k f fd ps sp) (hr:Room k X.A) (hg:Gl X x) (hm:X.mg x=some (.ref f)) (hk:PySem.W.keepIn X.K (.ref f)=true) (hb:uW X.K fd ps ds) (hd:bJ dvs ds) (hx:aAd CX X E)
  (ha:PA X (e::es) t) (hdb:(x==("__debug__" : Str))=false:=by decide) (he:starEach (e::es) X.env=(false,eval e X.env)::starEach es X.env:=by rfl) (hpl:(backTo pos (starEach es X.env)).any (·.1)=false:=by rfl) :
  PE X (.Call (.Name x p) (e::es) [] pos) (aFb sp dvs E t):=by
 intro pins s σ H Q I h
 refine wpAny_Call_Name_kw (aAG I hg hm ?_ hdb)
 refine PySem.W.callWith_K (h₀:=X.base) I.ok.mod.kin hk (thn (ha pos pins s σ H _ I h) fun us s1 ⟨vs,H1,I1,r,q⟩=>⟨I1.kIn,?_⟩) he hpl
 exact aFF F hr hb hd hx I1 r q
structure Mk (K:PySem.W.Frag) (C f:Addr):Prop where
 makes:PySem.W.makesIn K C=true
 init:PySem.W.findIn K (.ref C) "__init__" = some (some (.ref f))
 fn:PySem.W.isFn K (.ref f)=true
 kp:PySem.W.keepIn K (.ref C)=true
end
section
variable {k:Nat} {ks:List Str} {E:XK} {m:Str} {p pos kpos:Pos} {o:Expr} {kws:List Keyword} {t tk:TA} {nm:Option Str}
structure KBinds (K:PySem.W.Frag) (fd:FuncData) (ps ks:List Str) (g:List Value->List Value->List Value) (gV:List V->List V->List V):Prop where
 to:∀ (s:Shared) (us ws:List Value),K.In s.heap->(g us ws).length=ps.length->BindsTo s fd ⟨us,ks.zip ws⟩ (ps.zip (g us ws))
 rel:∀ {vs:List V} {us:List Value} {zs:List V} {ws:List Value},bJ vs us->bJ zs ws->bJ (gV vs zs) (g us ws)
variable {g:List Value->List Value->List Value} {gV:List V->List V->List V}
end
structure FnScope (N P:List Str) (sc:Scope):Prop where
 kind:sc.kind=.function
 co:sc.isCoroutine=false
 gen:sc.isGenerator=false
 nd:N.Nodup
 pre:N.take P.length=P
 par:∀ x∈P,sc.names.lookup x=some .local∨sc.names.lookup x=some .cell
 nofree:∀ y∈sc.names,y.2≠.free
theorem uX:∀ {binds:List (Str×Value)} {m:Str->Option Value},(∀ v,(x,v)∉binds)->bindL kindOf binds m x=m x
 | [],_,_=>rfl
 | (n,v)::r,m,h=>by
  unfold bindL
  rw [uX fun w hw=>h w (Qs _ hw)]
  split
  ·have:x≠n:=by rintro rfl; exact h v Qn
   simp [this]
  ·rfl
theorem uY:∀ {binds:List (Str×Value)} {m:Str->Option Value},(∀ v,(x,v)∉binds)->bindC kindOf binds m x=m x
 | [],_,_=>rfl
 | (n,v)::r,m,h=>by
  unfold bindC
  rw [uY fun w hw=>h w (Qs _ hw)]
  split
  ·rfl
  ·have:x≠n:=by rintro rfl; exact h v Qn
   simp [this]
theorem uZ {v:Value}:∀ {P:List Str} {vs:List Value} {i:Nat} {m:Str->Option Value},P.Nodup->P[i]?=some x->vs[i]?=some v->kindOf x=some .local ->
  bindL kindOf (P.zip vs) m x=some v
 | [],_,_,_,_,h,_,_=>by simp at h
 | _::_,[],_,_,_,_,h,_=>by simp at h
 | p::P,w::vs,0,m,nd,h1,h2,hk=>by
  simp at h1 h2; subst h1; subst h2
  show bindL kindOf ((p,w)::P.zip vs) m p=_
  unfold bindL
  rw [uX fun v hv=>(Xr.mp nd).1 (Yn hv).1,if_pos hk]
  simp
 | p::P,w::vs,i+1,m,nd,h1,h2,hk=>by
  show bindL kindOf ((p,w)::P.zip vs) m x=_
  unfold bindL
  exact uZ (i:=i) (Xr.mp nd).2 (by simpa using h1) (by simpa using h2) hk
theorem vA {v:Value}:∀ {P:List Str} {vs:List Value} {i:Nat} {m:Str->Option Value},P.Nodup->P[i]?=some x->vs[i]?=some v->kindOf x≠some .local ->
  bindC kindOf (P.zip vs) m x=some v
 | [],_,_,_,_,h,_,_=>by simp at h
 | _::_,[],_,_,_,_,h,_=>by simp at h
 | p::P,w::vs,0,m,nd,h1,h2,hk=>by
  simp at h1 h2; subst h1; subst h2
  show bindC kindOf ((p,w)::P.zip vs) m p=_
  unfold bindC
  rw [uY fun v hv=>(Xr.mp nd).1 (Yn hv).1,if_neg hk]
  simp
 | p::P,w::vs,i+1,m,nd,h1,h2,hk=>by
  show bindC kindOf ((p,w)::P.zip vs) m x=_
  unfold bindC
  exact vA (i:=i) (Xr.mp nd).2 (by simpa using h1) (by simpa using h2) hk
def start (N:List Str) (vs:List V):St:=vs.map some++List.replicate (N.length - vs.length) none
def aBB (CX:CXT) (P:Program) (w:World) (K:PySem.W.Frag) (mg:Str->Option Value) (base:Heap) (N:List Str) (qual:Str) (scope:Scope) (f:Addr) (cd:Value) (A:Around) (outer:List Env) (s:Shared) (H:Hp) (E:XK):Cx where
 prog:=P
 w:=w
 K:=K
 mg:=mg
 base:=base
 A:=A.deeper (envOfC qual scope s.heap.objs.size f cd)
 N:=N
 s₀:=s
 H₀:=H
 env:=envOfC qual scope s.heap.objs.size f cd
 outer:=outer
 stack:=envOfC qual scope s.heap.objs.size f cd::outer
 ex:=[]
 calm:=true
 fn:=fun _=>true
 pn:=[]
 xe:=fun e s'=>wpAny (model P w) (A.deeper (envOfC qual scope s.heap.objs.size f cd)) (leaving (envOfC qual scope s.heap.objs.size f cd) e) (fun _ s''=>CX outer H s E e s'') (fun e' s''=>CX outer H s E e' s'') s'
theorem xZ {sc:Scope} (h:sc.names.lookup x=some .cell):∃ c,(cellsFrom n sc.names []).lookup x=some c:=by
 have q:=PySem.W.cellsFrom_some sc.names n [] (.inl h)
 exact Yw.mp q
theorem aBC {cd:Value} {s1:Shared} {E:XK} (S:FnScope N ps scope) (hd:A.handled=none) (e0:Env0 P w K mg base A outer s H) (hl:vs.length=ps.length) (r:bJ vs us) (x:InCallC s s.heap.objs.size (bindL (envOfC qual scope s.heap.objs.size f cd).kindOf (ps.zip us) fun _=>none) (cellsFrom (s.heap.objs.size+1) scope.names []) (bindC (envOfC qual scope s.heap.objs.size f cd).kindOf (ps.zip us) fun _=>none) s1) :
  Inv (aBB CX P w K mg base N qual scope f cd A outer s H E) [] (start N vs) H s1:=by
 have hpl:ps.length<=N.length:=by have:=congrArg Yz S.pre; rw [Ja] at this; omega
 obtain ⟨h1,tk,rfl,hk⟩:=x.done
 have noA:∀ b:Addr,b∉(aBB CX P w K mg base N qual scope f cd A outer s H E).ex:=fun b z=>absurd (show b∈([]:List Addr) from z) (by simp)
 refine ⟨⟨e0.mod,S.kind,rfl,rfl,Qg _,fun y z c h1 h2=>?_,fun y hy=>?_,fun y c _ h=>?_,fun _=>hd,Around.frames_deeper e0.frames,.inr ⟨rfl,rfl⟩,fun b z=>absurd z (noA b),e0.bs,e0.bsz,fun b _ _=>noA b,fun b z=>absurd z (noA b),e0.funs,e0.frf⟩,
  rfl,e0.bare,Un.kept hk,⟨_,x.toInCall.ns,fun i y v h1 h2 h3=>?_⟩,fun y c h=>⟨_,x.cell y c h⟩,e0.hok.fresh (Qg _),fun y c h=>?_,fun p hp=>absurd (show p∈([]:List (Addr×Obj)) from hp) (by simp),e0.hok.kept hk,?_⟩
 ·exact name_of_addr x.apart (PySem.mem_of_lookup h1) (PySem.mem_of_lookup h2)
 ·have hy:scope.names.lookup y=some .cell∨scope.names.lookup y=some .free:=hy
  rcases hy with hy | hy
  ·exact xZ hy
  ·exact absurd rfl (S.nofree _ (PySem.mem_of_lookup hy))
 ·exact Ze (x.above y c (PySem.mem_of_lookup h))
 ·have hi:i < vs.length:=by
   unfold start at h2
   by_cases hi:i < vs.length
   ·exact hi
   ·rw [Jm (by simpa using hi)] at h2
    rw [Xu] at h2
    split at h2 <;> cases h2
  have ha:vs[i]?=some v:=by
   unfold start at h2
   rw [Ji (by simpa using hi),Qh] at h2
   cases e:vs[i]? with
   | none=>rw [e] at h2; cases h2
   | some a=>rw [e] at h2; cases h2; rfl
  obtain ⟨u,hu,rv⟩:=r.get ha
  have hp:ps[i]?=some y:=by
   rw [<- S.pre,List.getElem?_take_of_lt (by omega)]; exact h1
  have ndP:ps.Nodup:=by rw [<- S.pre]; exact S.nd.sublist (List.take_sublist _ _)
  refine ⟨u,rv,?_⟩
  rcases S.par y (Qe hp) with k | k
  ·exact .inl ⟨k,uZ ndP hp hu k⟩
  ·obtain ⟨c,e⟩:=xZ (n:=s.heap.objs.size+1) k
   refine .inr ⟨.inl k,c,e,?_⟩
   have q:=x.cell y c e
   rw [vA ndP hp hu (by show scope.names.lookup y≠_; rw [k]; decide)] at q
   exact q
 ·exact e0.hok.fresh (Ze (x.above y c (PySem.mem_of_lookup h)))
 ·unfold start
  show _=N.length
  rw [Qt,Qb,Xo]
  omega
theorem aGG {k:Nat} {params:Arguments} {dV kV:Value} (lk:K.lookup f=some ⟨oc,od,.func (PySem.W.fnOf name qual params body scope dV kV doc pm an cdv ct),osl⟩) (hcd:PySem.W.codeIn K cdv qual=true) (S:FnScope N ps scope) (len:∀ vs H Q E,sp vs H Q E->vs.length=ps.length) (hbody:∀ (A:Around) (outer:List Env) (s:Shared) (H:Hp) (vs:List V) (Q:VK) (E:XK),Room k (A.deeper (envOfC qual scope s.heap.objs.size f cdv))->sp vs H Q E ->
   ∃ t,PSs (aBB CX P w K mg base N qual scope f cdv A outer s H E) body t/\t { nx:=fun _ H'=>Q .non H',rt:=Q } (start N vs) H) :
  FnOk P w K mg base CX (k+1) f (PySem.W.fnOf name qual params body scope dV kV doc pm an cdv ct) ps sp:=by
 refine ⟨len,fun A outer s H args us vs Q E hr e0 hb r hsp=>?_⟩
 have hl:=len _ _ _ _ hsp
 have KX:K.In s.heap:=e0.mod.kin.keeps fun b o e=>(e0.bs b o e).1
 have lim:s.heap.NoLimit:=e0.mod.nolimit.keeps fun b o e=>(e0.bs b o e).1
 have hkind:∀ y∈ps.zip us,scope.names.lookup y.1=some .local∨(scope.names.lookup y.1=some .cell/\((cellsFrom (s.heap.objs.size+1) scope.names []).lookup y.1).isSome=true):=fun ⟨n,v⟩ hy=>by
  rcases S.par n (Yn hy).1 with q | q
  ·exact .inl q
  ·exact .inr ⟨q,PySem.W.cellsFrom_some _ _ _ (.inl q)⟩
 refine codeAny_call_function hr.depth (KX _ _ lk) rfl S.co S.gen rfl (PySem.W.codeRec_of KX hcd) (hb _ _ _ _ ?_)
 refine wpAny_newFunctionEnv_cells S.kind hkind fun env he s1 x=>?_
 subst he
 refine ⟨lim.keeps x.toInCall.keep,codeAny_func ?_⟩
 obtain ⟨t,ht,hq⟩:=hbody A outer s H vs Q E (hr.deeper _) hsp
 have I:Inv (aBB CX P w K mg base N qual scope f cdv A outer s H E) [] (start N vs) H s1:=aBC S hr.hd e0 hl r x
 refine wpAny_mono (ht [] s1 (start N vs) H _ I hq) (fun fl s' hs=>?_) fun e s' hs=>hs
 have fin:∀ {σ':St} {H':Hp} {v:V} {u:Value},Inv (aBB CX P w K mg base N qual scope f cdv A outer s H E) [] σ' H' s'->bI v u->Q v H'->CE outer P w H s Q u s' :=
  fun {σ' H' v u} J rv q=>⟨v,H',J.os,J.bare,J.base,J.hok,rv,q⟩
 cases fl with
 | ret u =>
  obtain ⟨v,σ',H',J,rv,q⟩:=hs
  exact fin J rv q
 | next =>
  obtain ⟨σ',H',J,q⟩:=hs
  exact fin (v:=V.non) (u:=Value.none) J rfl q
 | brk =>
  obtain ⟨_,_,_,q⟩:=hs
  exact False.elim q
 | cont =>
  obtain ⟨_,_,_,q⟩:=hs
  exact False.elim q
section
variable {p pos:Pos} {t:TA} {id:String} {r:List V->Hp->VK->Prop}
def tCB (r:List V->Hp->VK->Prop) (t:TA):TE:=fun σ H Q=>t σ H fun vs H1=>r vs H1 Q
theorem aQ (hc:gQ X (.builtin id) r) (hg:Gl X x) (hm:X.mg x=none) (hv:bootBuiltins x=some (.builtin id)) (ha:PA X (e::es) t) (hn:x ≠ "__name__" := by decide) (hdb:(x==("__debug__" : Str))=false:=by decide)
  (he:starEach (e::es) X.env=(false,eval e X.env)::starEach es X.env:=by rfl) (hpl:(backTo pos (starEach es X.env)).any (·.1)=false:=by rfl):PE X (.Call (.Name x p) (e::es) [] pos) (tCB r t):=by
 intro pins s σ H Q I h
 refine wpAny_Call_Name_kw (jN I hg hm hv ?_ hn hdb)
 refine PyProof.Rows.callWith_builtin1 (thn (ha pos pins s σ H _ I h) fun us s1 hx9=>?_) he hpl
 obtain ⟨vs,H1,I1,r1,q1⟩:=hx9
 exact hc pins s1 σ H1 vs us Q I1 r1 q1
theorem cE (hc:gQ X (.type T) r) (hg:Gl X x) (hm:X.mg x=none) (hv:bootBuiltins x=some (.type T)) (ha:PA X (e::es) t) (hn:x ≠ "__name__" := by decide) (hdb:(x==("__debug__" : Str))=false:=by decide)
  (he:starEach (e::es) X.env=(false,eval e X.env)::starEach es X.env:=by rfl) (hpl:(backTo pos (starEach es X.env)).any (·.1)=false:=by rfl):PE X (.Call (.Name x p) (e::es) [] pos) (tCB r t):=by
 intro pins s σ H Q I h
 refine wpAny_Call_Name_kw (jN I hg hm hv ?_ hn hdb)
 refine PyProof.Rows.callWith_type1 (thn (ha pos pins s σ H _ I h) fun us s1 hx9=>?_) he hpl
 obtain ⟨vs,H1,I1,r1,q1⟩:=hx9
 exact hc pins s1 σ H1 vs us Q I1 r1 q1
end
end L2
namespace HT
open PySem PyProof.Rows
section
open PySem.SeqAt
open PySem.AutoSeq1 (wpAny_loadPart')
open PySem.MeetsSeq PySem.MeetsSeq2 PySem.MeetsSeq3
end
theorem cat_tup {t:Addr} {vs ws:List Value} (ht:IsTup s.heap t vs.toArray) (hb:IsTup s.heap b ws.toArray) (hv:vs≠[]) (h1:ws = []->Q (.ref t) s) (h2:ws≠[]->Q (.ref s.heap.objs.size) { s with heap:=s.heap.push { cls:=.type "tuple",data:=.seq (vs++ws).toArray } }) (hsz:vs.length+ws.length<=sizeLine):wpAny (model prog w) A (binaryOp .Add (.ref t) (.ref b)) Q E s:=by
 obtain ⟨⟨cls,dd,data,sl⟩,ho,hc,n,hd⟩:=id ht
 obtain ⟨⟨cls2,dd2,data2,sl2⟩,ho2,hc2,n2,hd2⟩:=id hb
 simp only at hc hd hc2 hd2
 subst hc hd hc2 hd2
 have e:vs.toArray++ws.toArray=(vs++ws).toArray:=by simp
 by_cases hw:ws = []
 ·exact concat_meets ⟨_,ho,rfl⟩ ⟨_,ho2,rfl⟩ noFill_tuple_add seq_tuple_add PySem.F.slot_tuple_add PySem.F.entry_tuple_add (PySem.F.args_tuple_add_2 _ _)
   (tuple_addW1 t b vs.toArray ws.toArray n n2 dd dd2 sl sl2 (by simpa using hv) (by simp [hw])) ⟨ho,ho2,h1 hw⟩
 ·refine concat_meets ⟨_,ho,rfl⟩ ⟨_,ho2,rfl⟩ noFill_tuple_add seq_tuple_add PySem.F.slot_tuple_add PySem.F.entry_tuple_add (PySem.F.args_tuple_add_2 _ _)
   (tuple_addW2 t b vs.toArray ws.toArray n n2 dd dd2 sl sl2 (by simpa using hv) (by simpa using hw) (by rw [Qk,Qk]; exact hsz)) ⟨ho,ho2,?_⟩
  rw [e]
  exact h2 hw
def sIx (n d:Nat):Option Int->Nat
 | none=>d
 | some v=>if v < 0 then (v+(n:Int)).toNat else min v.toNat n
theorem sIx_none (n d:Nat):sIx n d none=d:=rfl
theorem sIx_nat (n d k:Nat):sIx n d (some (k:Int))=min k n:=by
 show (if (k:Int) < 0 then ((k:Int)+(n:Int)).toNat else min (k:Int).toNat n)=min k n
 rw [if_neg (by omega),Yf]
theorem aFG (n d:Nat) (hd:d<=n) (o:Option Int):sIx n d o<=n:=by
 cases o with
 | none=>exact hd
 | some v =>
  show (if v < 0 then (v+(n:Int)).toNat else min v.toNat n)<=n
  by_cases hv:v < 0
  ·rw [if_pos hv]; omega
  ·rw [if_neg hv]; exact Nat.min_le_right _ _
theorem aAL (v:Int) (n d:Nat):(if v < 0 then max (v+(n:Int)) 0 else min v (n:Int))=((sIx n d (some v):Nat):Int):=by
 show (if v < 0 then max (v+(n:Int)) 0 else min v (n:Int))=(((if v < 0 then (v+(n:Int)).toNat else min v.toNat n):Nat):Int)
 by_cases hv:v < 0
 ·simp only [if_pos hv]; omega
 ·simp only [if_neg hv]; omega
theorem aAe (lo hi:Option Int) (n:Nat):Builtin.Slice.sliceAdjust lo hi 1 (n:Int)=(((sIx n 0 lo:Nat):Int),((sIx n n hi:Nat):Int)):=by
 have h1:¬ ((1:Int) < 0):=by omega
 unfold Builtin.Slice.sliceAdjust
 simp only [h1,if_false]
 refine Prod.ext ?_ ?_
 ·cases lo with
  | none=>rfl
  | some v=>exact aAL v n 0
 ·cases hi with
  | none=>rfl
  | some v=>exact aAL v n n
theorem aAf (i j:Nat):Builtin.Slice.slicePlaces (i:Int) (j:Int) 1=j - i:=by
 unfold Builtin.Slice.slicePlaces
 have h1:(1:Int) > 0:=by omega
 simp only [h1,if_true,Ww]
 split <;> omega
theorem slicePart_ {v:Value} {o:Option Int} {Q:Option Int->Shared->Prop} (p:IsPart v o) (h:Q o s):wpAny (model prog w) A (Builtin.Slice.slicePartIndex v) Q E s:=by
 cases p with
 | none=>exact slicePart_none h
 | int i t=>exact slicePart_int h
theorem sliceApplied_gen {lo:Option Int} {Q:Int×Int×Nat->Shared->Prop} (hs:s.heap.IsSliceOf sl vl vu .none) (pl:IsPart vl lo) (pu:IsPart vu hi) (h:Q (((sIx n 0 lo:Nat):Int),1,sIx n n hi - sIx n 0 lo) s):wpAny (model prog w) A (Builtin.Slice.sliceApplied (.ref sl) (pure (n:Int))) Q E s:=by
 obtain ⟨os,hos,hcs,hds⟩:=id hs
 unfold Builtin.Slice.sliceApplied Builtin.Slice.sliceFields
 refine wpAny_bind (wpAny_bind (wpAny_field hos hds (x:=vl) rfl (wpAny_bind (wpAny_field hos hds (x:=vu) rfl (wpAny_bind (wpAny_field hos hds (x:=.none) rfl (wpAny_pure ?_)))))))
 refine wpAny_bind (slicePart_none ?_)
 show wpAny _ _ (if ((1:Int)==0)=true then _ else _) _ _ s
 rw [if_neg (by decide)]
 refine wpAny_bind (slicePart_ pl (wpAny_bind (slicePart_ pu (wpAny_bind (wpAny_pure ?_)))))
 show wpAny _ _ (match Builtin.Slice.sliceAdjust lo hi 1 (n:Int) with | (lo,hi)=>pure (lo,(1:Int),Builtin.Slice.slicePlaces lo hi 1)) _ _ s
 rw [aAe lo hi n]
 show wpAny _ _ (pure (((sIx n 0 lo:Nat):Int),(1:Int),Builtin.Slice.slicePlaces ((sIx n 0 lo:Nat):Int) ((sIx n n hi:Nat):Int) 1)) _ _ s
 rw [aAf]
 exact wpAny_pure h
theorem pick_gen (xs:Array Value) (i k:Nat):((List.range k).filterMap fun (m:Nat)=>xs[((i:Int)+(m:Int)*1).toNat]?).toArray=((xs.toList.drop i).take k).toArray:=by
 have e:(fun (m:Nat)=>xs[((i:Int)+(m:Int)*1).toNat]?)=fun m=>xs[i+m]?:=by
  funext m
  have:((i:Int)+(m:Int)*1).toNat=i+m:=by omega
  rw [this]
 rw [e]
 have:=pick_run xs i k
 rw [Wt] at this
 have e2:((fun x=>xs[x]?) ∘ fun x=>i+x)=fun m=>xs[i+m]?:=rfl
 rw [e2] at this
 rw [this]
theorem getItem_tuple_cut {t:Addr} {lo:Option Int} (ht:IsTup s.heap t items) (hs:s.heap.IsSliceOf sl vl vu .none) (pl:IsPart vl lo) (pu:IsPart vu hi) (hw:¬ (sIx items.size 0 lo=0/\sIx items.size items.size hi=items.size)) (h:Q (.ref s.heap.objs.size) { s with heap:=s.heap.push { cls:=.type "tuple",data:=.seq ((items.toList.drop (sIx items.size 0 lo)).take (sIx items.size items.size hi - sIx items.size 0 lo)).toArray } }) (hsz:items.size<=sizeLine):wpAny (model prog w) A (getItem (.ref t) (.ref sl)) Q E s:=by
 have htake:sizeOk (.seq ((items.toList.drop (sIx items.size 0 lo)).take (sIx items.size items.size hi - sIx items.size 0 lo)).toArray):=by
  show ((items.toList.drop (sIx items.size 0 lo)).take (sIx items.size items.size hi - sIx items.size 0 lo)).toArray.size<=sizeLine
  rw [Qk,Ja,Zi,Array.length_toList]
  omega
 have hj:sIx items.size items.size hi<=items.size:=aFG _ _ (Qg _) hi
 obtain ⟨os,hos,hcs,hds⟩:=id hs
 have hTs:s.TypeIs (.ref sl) "slice" := ⟨os,hos,hcs⟩
 unfold getItem
 try with_reducible refine wpAny_holding ?_
 first | refine wpAny_bind (wpAny_pure ?_) | skip
 refine wpAny_bind (wpAny_sequenceKey ht.typeIs (by decide) ?_)
 refine wpAny_bind (wpAny_callSpecial?_slot (name:=Str.ofString "__getitem__") ht.typeIs PyProof.Rows.slot_tuple_getitem
  (wpAny_call_entry PyProof.Rows.slot_tuple_getitem ht.typeIs entry_tuple_getitem ?_ (args_tuple_getitem _ _)))
 show wpAny _ _ (Builtin.Tuple.tupleItemsOf (.ref t) >>= _) _ _ s
 refine wpAny_bind (tupleItemsOf_ ht ?_)
 refine wpAny_bind (wpAny_typeOf hTs ?_)
 rw [if_pos (by decide)]
 refine wpAny_bind (sliceApplied_gen hs pl pu ?_)
 have hno:¬ ((((sIx items.size 0 lo:Nat):Int)==0 && (1:Int)==1 && (sIx items.size items.size hi - sIx items.size 0 lo)==items.size)=true):=by
  intro q
  rw [Jb,Jb] at q
  have q1:((sIx items.size 0 lo:Nat):Int)=0:=eq_of_beq q.1.1
  have q2:sIx items.size items.size hi - sIx items.size 0 lo=items.size:=eq_of_beq q.2
  exact hw ⟨by omega,by omega⟩
 show wpAny _ _ (if (((sIx items.size 0 lo:Nat):Int)==0 && (1:Int)==1 && (sIx items.size items.size hi - sIx items.size 0 lo)==items.size)=true then _ else _) _ _ s
 rw [if_neg hno,pick_gen]
 first
  | exact wpAny_bind (m:=Builtin.Tuple.tupleExact _) (wpAny_newObj_type (wpAny_pure ⟨_,rfl,wpAny_pure h⟩) htake)
  | exact wpAny_bind (m:=Builtin.Tuple.tupleExact _) (wpAny_newObj_type (wpAny_bind (wpAny_pure (wpAny_pure ⟨_,rfl,wpAny_pure h⟩))) htake)
  | exact wpAny_bind (wpAny_bind (m:=Builtin.Tuple.tupleExact _) (wpAny_newObj_type (wpAny_pure (wpAny_pure ⟨_,rfl,wpAny_pure h⟩)) htake))
  | exact wpAny_bind (wpAny_bind (m:=Builtin.Tuple.tupleExact _) (wpAny_newObj_type (wpAny_pure ⟨_,rfl,wpAny_pure h⟩) htake))
end HT
namespace L2
open PySem PySem.Spec PyProof.Rows
abbrev TO:=St->Hp->(Option Int->Hp->Prop)->Prop
def PO (X:Cx) (e:Option Expr) (t:TO):Prop :=
 ∀ (pins:List (Addr×Obj)) (s:Shared) (σ:St) (H:Hp) (Q:Option Int->Hp->Prop),Inv X pins σ H s->t σ H Q ->
  wpAny (model X.prog X.w) X.A (evalPart e X.env) (fun u s'=>∃ o H',Inv X pins σ H' s'/\IsPart u o/\Q o H') X.xe s
def aAM:TO:=fun _ H Q=>Q none H
def aFc (t:TE):TO:=fun σ H Q=>t σ H fun x H1=>∃ i,x=.int i/\Q (some i) H1
theorem aAg:∀ {us:List Value},bJ (ns.map V.int) us->IntsAre us ns:=by
 induction ns with
 | nil=>intro us r; rw [Wx] at r; cases r; exact .nil
 | cons n ns ih =>
  intro us r
  rw [Jk] at r
  cases r with
  | cons r1 r2 =>
   obtain ⟨t,e⟩:=r1
   subst e
   exact .cons n t (ih r2)
section
variable {lo hi:Option Expr} {tl th:TO} {pos:Pos}
theorem eO:PO X none aAM:=by
 intro pins s σ H Q I h
 rw [evalPart_none]
 exact wpAny_pure ⟨none,H,I,.none,h⟩
theorem dX (h:PE X e te):PO X (some e) (aFc te):=by
 intro pins s σ H Q I hw
 rw [evalPart_some]
 refine thn (h pins s σ H _ I hw) fun u s1 hx9=>?_
 obtain ⟨x,H1,I1,r1,q1⟩:=hx9
 obtain ⟨i,rfl,q⟩:=q1
 obtain ⟨t,rfl⟩:=r1
 exact ⟨some i,H1,I1,.int i t,q⟩
def SlR (X:Cx) (r:V->Option Int->Option Int->Hp->VK->Prop):Prop :=
 ∀ (pins:List (Addr×Obj)) (s:Shared) (σ:St) (H:Hp) (x:V) (v vl vu:Value) (lo hi:Option Int) (sl:Addr) (Q:VK),Inv X pins σ H s->bI x v->s.heap.IsSliceOf sl vl vu .none->IsPart vl lo->IsPart vu hi->r x lo hi H Q ->
  ∃ T id,typeLookup (.type T) "__getitem__" = pure (some (.builtin id))/\s.TypeIs v T/\wpAny (model X.prog X.w) X.A (getItem v (.ref sl)) (EP X pins σ Q) X.xe s
def tSl (r:V->Option Int->Option Int->Hp->VK->Prop) (te:TE) (tl th:TO):TE:=fun σ H Q=>te σ H fun x H1=>tl σ H1 fun l H2=>th σ H2 fun u H3=>r x l u H3 Q
theorem cP {r:V->Option Int->Option Int->Hp->VK->Prop} (hr:SlR X r) (he:PE X e te) (hl:PO X lo tl) (hu:PO X hi th):PE X (.Subscript e (.Slice lo hi none p2) pos) (tSl r te tl th):=by
 intro pins s σ H Q I h
 refine Subscript_ (thn (he pins s σ H _ I h) fun v s1 hx9=>?_)
 obtain ⟨x,H1,I1,r1,q1⟩:=hx9
 refine wpAny_Slice (thn (hl pins s1 σ H1 _ I1 q1) fun vl s2 ⟨l,H2,I2,pl,q2⟩=>thn (hu pins s2 σ H2 _ I2 q2) fun vu s3 hx9=>?_)
 obtain ⟨u,H3,I3,pu,q3⟩:=hx9
 rw [evalPart_none]
 refine wpAny_pure ?_
 have I4:Inv X pins σ H3 { s3 with heap:=s3.heap.push { cls:=.type "slice",data:=.fields #[vl,vu,.none] } }:=I3.kept (t':=s3.toks) fun b ob q=>Qa _ q
 obtain ⟨T,id,hT,ht,hg⟩:=hr pins { s3 with heap:=s3.heap.push { cls:=.type "slice",data:=.fields #[vl,vu,.none] } } σ H3 x v vl vu l u s3.heap.objs.size Q I4 r1 (Heap.IsSliceOf.new ..) pl pu q3
 show wpAny (model X.prog X.w) X.A (subscriptTail e (.Slice lo hi none p2) v (.ref s3.heap.objs.size)) (EP X pins σ Q) X.xe { s3 with heap:=s3.heap.push { cls:=.type "slice",data:=.fields #[vl,vu,.none] } }
 exact tail_any (ops:=[.ref s3.heap.objs.size,v]) ht hT hg (by with_unfolding_all rfl)
def nV (xs:List V) (lo hi:Option Int):List V:=(xs.drop (HT.sIx xs.length 0 lo)).take (HT.sIx xs.length xs.length hi - HT.sIx xs.length 0 lo)
theorem qR (xs:List V) (lo hi:Option Int):(nV xs lo hi).length<=xs.length:=by
 unfold nV
 rw [Ja,Zi]
 exact Qu (Nat.min_le_right _ _) (Nat.sub_le _ _)
def aHp (K:PySem.W.Frag):V->Option Int->Option Int->Hp->VK->Prop:=fun x lo hi H Q=>∃ a xs,x=.ref a/\SqT K H a xs /\
 ¬ (HT.sIx xs.length 0 lo=0/\HT.sIx xs.length xs.length hi=xs.length)/\∀ p,H p=none->Q (.ref p) (upd H p (.tup (nV xs lo hi)))
theorem aFH:SlR X (aHp X.K):=by
 intro pins s σ H x v vl vu lo hi sl Q I rx hs pl pu h
 obtain ⟨a,xs,rfl,hx,hw,q⟩:=h
 cases rx
 obtain ⟨its,r,ht,hz⟩:=I.tuple hx
 have hlen:its.toArray.size=xs.length:=by rw [Qk]; exact r.length.symm
 refine ⟨"tuple",_,PyProof.Rows.slot_tuple_getitem.lookup,ht.typeIs,?_⟩
 refine HT.getItem_tuple_cut ht hs pl pu (by rw [hlen]; exact hw) ?_ (by rw [hlen]; exact hz)
 rw [hlen]
 refine ⟨.ref s.heap.objs.size,_,I.laid (t':=s.toks) (o:=.tup (nV xs lo hi)) (fun b ob q=>Qa _ q) (Qg _) ?_,rfl,q _ (I.hok.fresh (Qg _))⟩
 exact ⟨Qu (qR xs lo hi) hz,_,0,(r.drop (HT.sIx xs.length 0 lo)).take (HT.sIx xs.length xs.length hi - HT.sIx xs.length 0 lo),Qm _ rfl⟩
def aGH (K:PySem.W.Frag):R2:=fun x y H Q=>∃ a b xs ys,x=.ref a/\y=.ref b/\SqT K H a xs/\SqT K H b ys/\xs≠[]/\xs.length+ys.length<=sizeLine /\
 (ys = []->Q (.ref a) H)/\(ys≠[]->∀ p,H p=none->Q (.ref p) (upd H p (.tup (xs++ys))))
theorem bJ.nil_iff (r:bJ xs us):us = []↔xs = []:=by
 cases r with
 | nil=>simp
 | cons _ _=>simp
theorem aD4:OpR X (binaryOp .Add) (aGH X.K):=by
 intro pins s σ H x y v u Q I rx ry h
 obtain ⟨a,b,xs,ys,rfl,rfl,ha,hb,hx,hz,q1,q2⟩:=h
 cases rx
 cases ry
 obtain ⟨its,r1,p1,_⟩:=I.tuple ha
 obtain ⟨its2,r2,p2,_⟩:=I.tuple hb
 refine HT.cat_tup p1 p2 (fun z=>hx (r1.nil_iff.mp z)) (fun z=>⟨.ref a,H,I,rfl,q1 (r2.nil_iff.mp z)⟩) (fun z=>?_) (by rw [<- r1.length,<- r2.length]; exact hz)
 refine ⟨.ref s.heap.objs.size,_,I.laid (t':=s.toks) (o:=.tup (xs++ys)) (fun b ob q=>Qa _ q) (Qg _) ?_,rfl,q2 (fun w=>z (r2.nil_iff.mpr w)) _ (I.hok.fresh (Qg _))⟩
 exact ⟨by rw [Qt]; exact hz,_,0,r1.append r2,Qm _ rfl⟩
end
def ixN (n:Nat) (i:Int):Option Nat:=if 0<=i then (if i < n then some i.toNat else none) else if -(n:Int)<=i then some (i+n).toNat else none
def atI (xs:List α) (i:Int):Option α:=(ixN xs.length i).bind fun j=>xs[j]?
theorem aAN {i:Int} (h:ixN n i=some j):seqIndex? i n=some j/\j < n/\-(n:Int)<=i/\i < n:=by
 unfold ixN at h
 by_cases h0:0<=i
 ·rw [if_pos h0] at h
  by_cases h1:i < n
  ·rw [if_pos h1] at h
   have e:i.toNat=j:=Option.some.inj h
   exact ⟨by rw [seqIndex_of h0 h1,e],by omega,by omega,h1⟩
  ·rw [if_neg h1] at h; cases h
 ·rw [if_neg h0] at h
  by_cases h1:-(n:Int)<=i
  ·rw [if_pos h1] at h
   have e:(i+n).toNat=j:=Option.some.inj h
   exact ⟨by rw [seqIndex_neg (by omega) h1,e],by omega,h1,by omega⟩
  ·rw [if_neg h1] at h; cases h
theorem aAO {xs:List α} {i:Int} {v:α} (h:atI xs i=some v):∃ j,seqIndex? i xs.length=some j/\xs[j]?=some v/\j < xs.length/\-(xs.length:Int)<=i/\i < xs.length:=by
 unfold atI at h
 cases e:ixN xs.length i with
 | none=>rw [e] at h; cases h
 | some j =>
  rw [e] at h
  obtain ⟨h1,h2,h3,h4⟩:=aAN e
  exact ⟨j,h1,h,h2,h3,h4⟩
theorem bX {xs:List α} {v:α} (h:xs[j]?=some v):atI xs (j:Int)=some v:=by
 have hj:j < xs.length:=(Qd.mp h).1
 have e:ixN xs.length (j:Int)=some j:=by
  unfold ixN
  rw [if_pos (by omega),if_pos (by omega)]; simp
 unfold atI; rw [e]; exact h
def aD5 (b:Expr):Prop:=∀ o i,subscripted b false o i=operate [o,i] (getItem o i)
def IxR (X:Cx) (r:R2):Prop :=
 ∀ (value slice:Expr) (pins:List (Addr×Obj)) (s:Shared) (σ:St) (H:Hp) (x y:V) (v u:Value) (Q:VK),Inv X pins σ H s->bI x v->bI y u->r x y H Q ->
  subscripted slice false v u=operate [v,u] (getItem v u)->wpAny (model X.prog X.w) X.A (subscriptTail value slice v u) (EP X pins σ Q) X.xe s
def MtR (X:Cx) (id:String) (r:V->List V->Hp->VK->Prop):Prop :=
 ∀ (pins:List (Addr×Obj)) (s:Shared) (σ:St) (H:Hp) (x:V) (xs:List V) (v:Value) (us:List Value) (Q:VK),Inv X pins σ H s->bI x v->bJ xs us->r x xs H Q ->
  wpAny (model X.prog X.w) X.A (call (.builtin id) (v::us)) (EP X pins σ Q) X.xe s
section
variable {a b:Expr} {pos:Pos}
theorem aT {r:R2} (hr:IxR X r) (ha:PE X a ta) (hb:PE X b tb) (hs:aD5 b):PE X (.Subscript a b pos) (tOp r ta tb):=by
 intro pins s σ H Q I h
 exact Subscript_ (aFz ha hb I h fun v u s2 x y H2 I2 rx ry q=>hr a b pins s2 σ H2 x y v u Q I2 rx ry q (hs _ _))
def aGI (K:PySem.W.Frag):R2:=fun x y H Q=>∃ p xs i v,x=.ref p/\y=.int i/\SqL K H p xs/\atI xs i=some v/\Q v H
def aGJ (K:PySem.W.Frag):R2:=fun x y H Q=>∃ p xs i v,x=.ref p/\y=.int i/\SqT K H p xs/\atI xs i=some v/\Q v H
theorem eD:IxR X (aGI X.K):=by
 intro value slice pins s σ H x y v u Q I rx ry h hs
 obtain ⟨p,xs,i,z,rfl,rfl,hq,he,q⟩:=h
 cases rx
 obtain ⟨t,rfl⟩:=ry
 obtain ⟨its,r,pl,hz⟩:=I.list hq
 obtain ⟨j,h1,h2,h3,h4,h5⟩:=aAO he
 obtain ⟨w,ew,rw'⟩:=r.get h2
 have hl:=r.length
 have hn:=sF
 have fin:EP X pins σ Q w s:=⟨z,H,I,rw',q⟩
 by_cases h0:0<=i
 ·have hj:i.toNat=j:=by
   rw [seqIndex_of h0 h5] at h1
   exact Option.some.inj h1
  exact item_listR pl.isList h0 (by omega) (by rw [hj]; simpa using ew) fin hs
 ·have hj:(i+(its.toArray.size:Int)).toNat=j:=by
   rw [seqIndex_neg (by omega) h4] at h1
   rw [Qk,<- hl]
   exact Option.some.inj h1
  exact subscriptTail_builtinR (x:=w) pl.isList.typeIs slot_list_getitem.lookup
   (wpAny_getItem_list_neg (Q:=fun r s'=>r=w/\EP X pins σ Q r s') pl.isList (by omega) (by rw [Qk] <;> omega) (by omega) (by rw [hj]; simpa using ew) ⟨rfl,fin⟩) hs
theorem bO:IxR X (aGJ X.K):=by
 intro value slice pins s σ H x y v u Q I rx ry h hs
 obtain ⟨p,xs,i,z,rfl,rfl,hq,he,q⟩:=h
 cases rx
 obtain ⟨t,rfl⟩:=ry
 obtain ⟨its,r,pl,hz⟩:=I.tuple hq
 obtain ⟨j,h1,h2,h3,h4,h5⟩:=aAO he
 obtain ⟨w,ew,rw'⟩:=r.get h2
 have hl:=r.length
 have hn:=sF
 have fin:EP X pins σ Q w s:=⟨z,H,I,rw',q⟩
 exact subscriptTail_builtinR (x:=w) pl.typeIs slot_tuple_getitem.lookup
  (getItem_tuple (j:=j) (Q:=fun r s'=>r=w/\EP X pins σ Q r s') pl (by omega) (by omega) (by rw [Qk,<- hl]; exact h1) (by simpa using ew) ⟨rfl,fin⟩) hs
theorem aAh (its:List Value) (n j:Nat) (u:Value):Obj.mapSeq (·.setIfInBounds j u) { cls:=.type "list",data:=.seq its.toArray n }={ cls:=.type "list",data:=.seq (its.set j u).toArray n }:=by
 simp [Obj.mapSeq]
theorem Inv.lst {σ:St} (I:Inv X pins σ H s) (h:H p=some (.lst xs)) :
  ∃ (its:List Value) (n:Nat),bJ xs its/\s.heap.get? p=some { cls:=.type "list",data:=.seq its.toArray n }/\xs.length<=sizeLine:=by
 obtain ⟨z,its,n,r,e⟩:=I.hok p _ h
 exact ⟨its,n,r,e,z⟩
theorem Inv.lstUpd {σ:St} {its its':List Value} {n':Nat} {f:Obj->Obj} (I:Inv X pins σ H s) (h:H p=some (.lst xs)) (ho:s.heap.get? p=some { cls:=.type "list",data:=.seq its.toArray n }) (hf:f { cls:=.type "list",data:=.seq its.toArray n }={ cls:=.type "list",data:=.seq its'.toArray n' }) (r:bJ ys its') (hz:ys.length<=sizeLine) (t:Nat) :
  Inv X pins σ (upd H p (.lst ys)) { s with heap:=s.heap.update p f,toks:=t }:=by
 have e:(s.heap.update p f).get? p=some { cls:=.type "list",data:=.seq its'.toArray n' }:=by
  rw [Xp f ho (by rw [hf] <;> rfl),hf]
 refine I.write (x:=p) (e:=p) (by rw [h]; trivial) (.inl rfl) (fun b u hb q=>(Jo _ _ (Ne.symm hb)).trans q) ⟨_,e⟩ ?_
 exact ⟨hz,its',n',r,e⟩
def aGK:V->V->V->Hp->(Hp->Prop)->Prop:=fun o i v H Q=>∃ p xs k j,o=.ref p/\i=.int k/\H p=some (.lst xs)/\ixN xs.length k=some j/\Q (upd H p (.lst (xs.set j v)))
theorem kK:aFw X aGK:=by
 intro pins s σ H o i v ov iv u Q I ro ri rv h
 obtain ⟨p,xs,k,j,rfl,rfl,hp,hj,q⟩:=h
 cases ro
 obtain ⟨t,rfl⟩:=ri
 obtain ⟨its,n,r,ho,hz⟩:=I.lst hp
 obtain ⟨h1,h2,h3,h4⟩:=aAN hj
 have hl:=r.length
 have hn:=sF
 have I':Inv X pins σ (upd H p (.lst (xs.set j v))) { s with heap:=s.heap.update p (Obj.mapSeq (·.setIfInBounds j u)) } :=
  I.lstUpd hp ho (aAh its n j u) (r.set rv j) (by rw [Xs]; exact hz) s.toks
 by_cases h0:0<=k
 ·have hk:k.toNat=j:=by
   rw [seqIndex_of h0 h4] at h1
   exact Option.some.inj h1
  exact PySem.W.ki_setAt ho h0 (by omega) (by rw [Qk,<- hl]; exact h4) (by rw [hk]; exact ⟨_,I',q⟩)
 ·have hk:(k+(its.toArray.size:Int)).toNat=j:=by
   rw [seqIndex_neg (by omega) h3] at h1
   rw [Qk,<- hl]
   exact Option.some.inj h1
  exact PySem.W.ki_setBack ho (by omega) (by rw [Qk,<- hl]; exact h3) (by omega) (by rw [hk]; exact ⟨_,I',q⟩)
theorem vW (lo hi:Option Int) (n:Nat):(sliceBounds lo hi none n).1=((HT.sIx n 0 lo:Nat):Int)/\(sliceBounds lo hi none n).2.1=((HT.sIx n n hi:Nat):Int)/\(sliceBounds lo hi none n).2.2=1:=by
 refine ⟨?_,?_,rfl⟩
 ·cases lo with
  | none=>simp [sliceBounds,HT.sIx]
  | some i =>
   simp only [sliceBounds,HT.sIx,Wy,show (1:Int) > 0 by decide,if_true]
   by_cases h:i < 0
   ·simp only [h,if_true] <;> omega
   ·simp only [h,if_false] <;> omega
 ·cases hi with
  | none=>simp [sliceBounds,HT.sIx]
  | some i =>
   simp only [sliceBounds,HT.sIx,Wy,show (1:Int) > 0 by decide,if_true]
   by_cases h:i < 0
   ·simp only [h,if_true] <;> omega
   ·simp only [h,if_false] <;> omega
theorem uI (its:List Value) (lo hi:Option Int):slicePick its.toArray lo hi none=((its.drop (HT.sIx its.length 0 lo)).take (HT.sIx its.length its.length hi - HT.sIx its.length 0 lo)).toArray:=by
 obtain ⟨h1,h2,h3⟩:=vW lo hi its.toArray.size
 unfold slicePick
 rw [h1,h2,h3]
 simp only [sliceRange_one,pick_run,Qk] <;> rfl
def aFI (K:PySem.W.Frag):V->Option Int->Option Int->Hp->VK->Prop:=fun x lo hi H Q=>∃ a xs,x=.ref a/\SqL K H a xs/\∀ p,H p=none->Q (.ref p) (upd H p (.lst (nV xs lo hi)))
theorem aAP:SlR X (aFI X.K):=by
 intro pins s σ H x v vl vu lo hi sl Q I rx hs pl pu h
 obtain ⟨a,xs,rfl,hx,q⟩:=h
 cases rx
 obtain ⟨its,r,ht,hz⟩:=I.list hx
 have hlen:=r.length
 refine ⟨"list",_,slot_list_getitem.lookup,ht.isList.typeIs,?_⟩
 refine wpAny_getItem_list_slice ht.isList hs pl pu .none (by simp) ?_ (by rw [Qk] <;> omega)
 rw [uI,<- hlen]
 refine ⟨.ref s.heap.objs.size,_,I.laid (t':=s.toks) (o:=.lst (nV xs lo hi)) (fun b ob q=>Qa _ q) (Qg _) ?_,rfl,q _ (I.hok.fresh (Qg _))⟩
 exact ⟨Qu (qR xs lo hi) hz,_,0,(r.drop (HT.sIx xs.length 0 lo)).take (HT.sIx xs.length xs.length hi - HT.sIx xs.length 0 lo),Qm _ rfl⟩
def nQ:V->Bool
 | .non=>true
 | .bl _=>true
 | .int _=>true
 | .str _=>true
 | _=>false
def eqV:V->V->Bool
 | .non,.non=>true
 | .bl a,.bl b=>a==b
 | .bl a,.int b=>(if a then 1 else 0)==b
 | .int a,.bl b=>a==(if b then 1 else 0)
 | .int a,.int b=>a==b
 | .str a,.str b=>a==b
 | _,_=>false
theorem aFJ {x:V} {v:Value} (ry:bI y u) (rx:bI x v) (fy:nQ y=true) (fx:nQ x=true):SeqAt.EqAt A s u v (eqV y x):=by
 cases y with
 | non =>
  cases ry
  cases x with
  | non=>cases rx; exact SeqAt.EqAt.same _
  | bl b=>cases rx; exact SeqAt.EqAt.none_bool b
  | int b=>obtain ⟨t,rfl⟩:=rx; exact SeqAt.EqAt.none_int b t
  | str b=>obtain ⟨t,rfl⟩:=rx; exact SeqAt.EqAt.none_str b t
  | _=>exact absurd (show false=true from fx) Qx
 | bl a =>
  cases ry
  cases x with
  | non=>cases rx; exact SeqAt.EqAt.bool_none a
  | bl b=>cases rx; exact SeqAt.EqAt.bool_bool a b
  | int b=>obtain ⟨t,rfl⟩:=rx; exact SeqAt.EqAt.bool_int a b t
  | str b=>obtain ⟨t,rfl⟩:=rx; exact SeqAt.EqAt.bool_str a b t
  | _=>exact absurd (show false=true from fx) Qx
 | int a =>
  obtain ⟨t',rfl⟩:=ry
  cases x with
  | non=>cases rx; exact SeqAt.EqAt.int_none a t'
  | bl b=>cases rx; exact SeqAt.EqAt.int_bool a t' b
  | int b=>obtain ⟨t,rfl⟩:=rx; exact SeqAt.EqAt.int_int a t' b t
  | str b=>obtain ⟨t,rfl⟩:=rx; exact SeqAt.EqAt.int_str a t' b t
  | _=>exact absurd (show false=true from fx) Qx
 | str a =>
  obtain ⟨t',rfl⟩:=ry
  cases x with
  | non=>cases rx; exact SeqAt.EqAt.str_none a t'
  | bl b=>cases rx; exact SeqAt.EqAt.str_bool a t' b
  | int b=>obtain ⟨t,rfl⟩:=rx; exact SeqAt.EqAt.str_int a t' b t
  | str b=>obtain ⟨t,rfl⟩:=rx; exact SeqAt.EqAt.str_str a t' b t
  | _=>exact absurd (show false=true from fx) Qx
 | _=>exact absurd (show false=true from fy) Qx
def eqU (x:V) (u:Value):Bool:=match u with
 | .none=>eqV .non x
 | .bool b=>eqV (.bl b) x
 | .int i _=>eqV (.int i) x
 | .str z _=>eqV (.str z) x
 | _=>false
theorem aCy {x:V} (r:bI y u) (f:nQ y=true):eqU x u=eqV y x:=by
 cases y with
 | non=>cases r; rfl
 | bl b=>cases r; rfl
 | int i=>obtain ⟨t,rfl⟩:=r; rfl
 | str z=>obtain ⟨t,rfl⟩:=r; rfl
 | _=>exact absurd (show false=true from f) Qx
theorem rJ {x:V}:∀ {xs:List V} {us:List Value},bJ xs us->xs.all nQ=true->us.any (eqU x)=xs.any fun y=>eqV y x
 := by
 intro xs us h
 induction h with
 | nil=>intro _; rfl
 | cons r t ih =>
  intro f
  rw [Ya,Jb] at f
  rw [Zq,Zq,aCy r f.1,ih f.2]
theorem mF {x:V} {v:Value} (rx:bI x v) (fx:nQ x=true):∀ {xs:List V} {us:List Value},bJ xs us->xs.all nQ=true->∀ u∈us,SeqAt.EqAt A s u v (eqU x u)
 | _,_,.nil,_=>fun u hu=>by cases hu
 | y::xs,u::us,.cons r t,f=>fun u' hu=>by
  rw [Ya,Jb] at f
  rcases Qj.mp hu with rfl | hu
  ·rw [aCy r f.1]; exact aFJ r rx f.1 fx
  ·exact mF rx fx t f.2 u' hu
def inV (x:V) (xs:List V):Bool:=xs.any fun y=>eqV y x
def rIn (K:PySem.W.Frag) (neg:Bool):R2:=fun x y H Q=>∃ p xs,y=.ref p/\(SqL K H p xs∨SqT K H p xs)/\nQ x=true/\xs.all nQ=true/\Q (.bl (if neg then !inV x xs else inV x xs)) H
theorem pT:OpR X (compareOp .In) (rIn X.K false):=by
 intro pins s σ H x y v u Q I rx ry h
 obtain ⟨p,xs,rfl,hq,fx,fs,q⟩:=h
 cases ry
 rcases hq with hq | hq
 ·obtain ⟨its,r,pl,hz⟩:=I.list hq
  refine SeqAt.in_listAt (eqU x) pl.isList (fun w hw=>mF rx fx r fs w (by simpa using hw)) ⟨.bl _,H,I,rfl,?_⟩
  rw [show its.toArray.any (eqU x)=its.any (eqU x) by simp,rJ r fs]
  exact q
 ·obtain ⟨its,r,pl,hz⟩:=I.tuple hq
  refine SeqAt.in_tupleAt (eqU x) pl (fun w hw=>mF rx fx r fs w (by simpa using hw)) ⟨.bl _,H,I,rfl,?_⟩
  rw [show its.toArray.any (eqU x)=its.any (eqU x) by simp,rJ r fs]
  exact q
theorem vX:OpR X (compareOp .NotIn) (rIn X.K true):=by
 intro pins s σ H x y v u Q I rx ry h
 obtain ⟨p,xs,rfl,hq,fx,fs,q⟩:=h
 cases ry
 rcases hq with hq | hq
 ·obtain ⟨its,r,pl,hz⟩:=I.list hq
  refine SeqAt.notIn_listAt (eqU x) pl.isList (fun w hw=>mF rx fx r fs w (by simpa using hw)) ⟨.bl _,H,I,rfl,?_⟩
  rw [show its.toArray.any (eqU x)=its.any (eqU x) by simp,rJ r fs]
  exact q
 ·obtain ⟨its,r,pl,hz⟩:=I.tuple hq
  refine SeqAt.notIn_tupleAt (eqU x) pl (fun w hw=>mF rx fx r fs w (by simpa using hw)) ⟨.bl _,H,I,rfl,?_⟩
  rw [show its.toArray.any (eqU x)=its.any (eqU x) by simp,rJ r fs]
  exact q
theorem aV:gQ X (.builtin "len") (fun xs H Q=>∃ p ys,xs = [.ref p]/\(SqL X.K H p ys∨SqT X.K H p ys)/\Q (.int ys.length) H):=by
 intro pins s σ H xs us Q I r h
 obtain ⟨p,ys,rfl,hq,q⟩:=h
 obtain ⟨u,rfl,rx⟩:=kJ r
 cases rx
 have hn:=sF
 rcases hq with hq | hq
 ·obtain ⟨its,r',pl,hz⟩:=I.list hq
  have hlen:=r'.length
  exact Calls.call_len_list pl.isList (by simp only [Qk] <;> omega) ⟨.int ys.length,H,I.tok _,⟨s.toks+1,by rw [Qk,hlen]⟩,q⟩
 ·obtain ⟨its,r',pl,hz⟩:=I.tuple hq
  have hlen:=r'.length
  exact len_tuple pl (by simp only [Qk] <;> omega) ⟨.int ys.length,H,I.tok _,⟨s.toks+1,by rw [Qk,hlen]⟩,q⟩
theorem lF:gQ X (.type "list") (fun xs H Q=>∃ p ys,xs = [.ref p]/\(SqL X.K H p ys∨SqT X.K H p ys)/\∀ l,H l=none->Q (.ref l) (upd H l (.lst ys))):=by
 intro pins s σ H xs us Q I r h
 obtain ⟨p,ys,rfl,hq,q⟩:=h
 obtain ⟨u,rfl,rx⟩:=kJ r
 cases rx
 have fin:∀ (its:List Value),bJ ys its->ys.length<=sizeLine->∀ (h':Heap) (c':Nat),(∀ b o',s.heap.get? b=some o'->h'.get? b=some o') ->
   h'.get? s.heap.objs.size=some { cls:=.type "list",dict:=none,data:=.seq its.toArray c',slots:=#[] }->EP X pins σ Q (.ref s.heap.objs.size) { s with heap:=h' }:=fun its r' hz h' c' kp e =>
  ⟨.ref s.heap.objs.size,_,I.laid (t':=s.toks) kp (Qg _) (show cO X.prog X.w _ h' _ (.lst ys) from ⟨hz,its,c',r',e⟩),rfl,q _ (I.hok.fresh (Qg _))⟩
 rcases hq with hq | hq
 ·obtain ⟨its,r',pl,hz⟩:=I.list hq
  have hlen:=r'.length
  obtain ⟨o,ho,hc,n,hd⟩:=pl.isList
  exact call_list_seq p (.inl rfl) ho hc hd (fun h' c' kp e=>fin its r' hz h' c' kp e) (by simp only [Qk] <;> omega)
 ·obtain ⟨its,r',pl,hz⟩:=I.tuple hq
  have hlen:=r'.length
  obtain ⟨o,ho,hc,n,hd⟩:=pl
  exact call_list_seq p (.inr rfl) ho hc hd (fun h' c' kp e=>fin its r' hz h' c' kp e) (by simp only [Qk] <;> omega)
theorem fX:gQ X (.type "tuple") (fun xs H Q=>∃ p ys,xs = [.ref p]/\((SqL X.K H p ys/\∀ l,H l=none->Q (.ref l) (upd H l (.tup ys)))∨(SqT X.K H p ys/\Q (.ref p) H))):=by
 intro pins s σ H xs us Q I r h
 obtain ⟨p,ys,rfl,h⟩:=h
 obtain ⟨u,rfl,rx⟩:=kJ r
 cases rx
 rcases h with ⟨hq,q⟩ | ⟨hq,q⟩
 ·obtain ⟨its,r',pl,hz⟩:=I.list hq
  have hlen:=r'.length
  refine call_tuple_list pl.isList (fun h' kp=>?_) (by simp only [Qk] <;> omega)
  have I1:Inv X pins σ H { s with heap:=h' }:=I.kept (t':=s.toks) kp
  have I2:Inv X pins σ (upd H h'.objs.size (.tup ys)) { s with heap:=h'.push { cls:=.type "tuple",data:=.seq its.toArray } } :=
   I1.laid (t':=s.toks) (fun b o e=>Qa _ e) (Qg _) (show cO X.prog X.w _ _ _ (.tup ys) from ⟨hz,its,0,r',Qm _ rfl⟩)
  exact ⟨.ref h'.objs.size,_,I2,rfl,q _ (I1.hok.fresh (Qg _))⟩
 ·obtain ⟨its,r',pl,hz⟩:=I.tuple hq
  exact call_tuple_same pl ⟨.ref p,H,I,rfl,q⟩
def tyV (K:PySem.W.Frag) (T:String) (x:V) (H:Hp):Prop:=match x with
 | .str _=>T = "str"
 | .int _=>T = "int"
 | .ref p => (T = "list" /\ ∃ xs, SqL K H p xs) ∨ (T = "tuple" /\ ∃ xs, SqT K H p xs) ∨
     (T = "dict" /\ ((∃ kvs,H p=some (.dK kvs))∨∃ kvs,H p=some (.dT kvs)))∨(T = "set" /\ ∃ S n,H p=some (.set S n))
 | _=>False
theorem aFK {σ:St} {x:V} {v:Value} (I:Inv X pins σ H s) (r:bI x v) (ty:tyV X.K T x H) :
  s.TypeIs v T/\∀ a,v=.ref a->∃ ob,s.heap.get? a=some ob/\ob.dict=none:=by
 cases x with
 | str z =>
  obtain ⟨t,rfl⟩:=r
  cases (show T = "str" from ty)
  exact ⟨typeIs_str s z t,fun _ e=>nomatch e⟩
 | int i =>
  obtain ⟨t,rfl⟩:=r
  cases (show T = "int" from ty)
  exact ⟨typeIs_int s i t,fun _ e=>nomatch e⟩
 | ref p =>
  cases r
  rcases ty with ⟨rfl,xs,hq⟩ | ⟨rfl,xs,hq⟩ | ⟨rfl,hk⟩ | ⟨rfl,S,n,hk⟩
  ·obtain ⟨its,_,pl,_⟩:=I.list hq
   refine ⟨pl.isList.typeIs,fun a e=>?_⟩
   cases e
   obtain ⟨o,n,e,c,hd,_⟩:=pl
   exact ⟨o,e,hd⟩
  ·obtain ⟨o,e,hc,hd⟩:∃ o,s.heap.get? p=some o/\o.cls=.type "tuple" /\ o.dict=none:=by
    rcases hq with hq | ⟨o,_,_,hk,hc,hd,_⟩
    ·obtain ⟨_,its,n,_,e⟩:=hq.ok I.hok
     exact ⟨_,e,rfl,rfl⟩
    ·exact ⟨o,I.kIn p o hk,hc,hd⟩
   refine ⟨⟨o,e,hc⟩,fun a e2=>?_⟩
   cases e2
   exact ⟨o,e,hd⟩
  ·have z:∃ o,s.heap.get? p=some o/\o.ExactDict:=by
    rcases hk with ⟨kvs,hk⟩ | ⟨kvs,hk⟩
    ·obtain ⟨_,_,_,_,o,_,_,e,ex,_⟩:=I.hok p _ hk
     exact ⟨o,e,ex⟩
    ·obtain ⟨_,_,_,_,o,_,_,e,ex,_⟩:=I.hok p _ hk
     exact ⟨o,e,ex⟩
   obtain ⟨o,e,ex⟩:=z
   refine ⟨⟨o,e,ex.1⟩,fun a e2=>?_⟩
   cases e2
   exact ⟨o,e,ex.2.1⟩
  ·obtain ⟨o,_,_,_,e,ex,_⟩:=I.hok p _ hk
   refine ⟨⟨o,e,ex.1⟩,fun a e2=>?_⟩
   cases e2
   exact ⟨o,e,ex.2.1⟩
 | _=>exact False.elim ty
def tBM (K:PySem.W.Frag) (T:String) (r:V->List V->Hp->VK->Prop) (to:TE) (t:TA):TE:=fun σ H Q=>to σ H fun x H1=>tyV K T x H1/\t σ H1 fun xs H2=>r x xs H2 Q
variable {o:Expr} {t:TA} {id:String} {r:V->List V->Hp->VK->Prop}
theorem kL (pa:PlainAttrs T) (slot:Slot T name id) (hty:typeOf (.builtin id)=pure (.type "method_descriptor")) (hm:MtR X id r) (ho:PE X o to) (ha:PA X (e::es) t)
  (hbase:attributeBase o name X.env (eval o X.env)=eval o X.env:=by rfl)
  (hfew:((backTo cpos (starEach (e::es) X.env)).all (fun x=>!x.1) && (backToKw cpos (keywordEach [] X.env)).all (fun x=>x.1.isSome)
   && decide ((e::es).length+([]:List Keyword).length+(if ([]:List Keyword).isEmpty then 0 else 1) < 30))=true:=by rfl)
  (hline:(apos.endLine==cpos.line)=true:=by rfl) (hs:starEach (e::es) X.env=(false,eval e X.env)::starEach es X.env:=by rfl) (hplain:(backTo cpos (starEach es X.env)).any (·.1)=false:=by rfl) :
  PE X (.Call (.Attribute o name apos) (e::es) [] cpos) (tBM X.K T r to t):=by
 intro pins s σ H Q I h
 refine wpAny_Call_method_late hbase hfew hline rfl (thn (ho pins s σ H _ I h) fun v s1 hx9=>?_)
 obtain ⟨x,H1,I1,r1,ty,q1⟩:=hx9
 obtain ⟨h1,h2⟩:=aFK I1 r1 ty
 refine ⟨T,id,pa,slot,hty,h1,h2,?_⟩
 have hA:=ha cpos pins s1 σ H1 _ I1 q1
 rw [hs] at hA ⊢
 refine Calls.callWith_builtin (by show (false || (backTo cpos (starEach es X.env)).any (·.1))=false; rw [hplain] <;> rfl) (Calls.evalArgs_plain ?_)
 refine thn hA fun us s2 hx9=>?_
 obtain ⟨vs,H2,I2,r2,q2⟩:=hx9
 exact hm pins s2 σ H2 x vs v us Q I2 r1 r2 q2
/- xs.append(e),list.index on a module's tuple .. are MtR facts of 06m -/
end
def MtM (X:Cx) (id:String) (r:V->List V->Hp->VK->Prop):Prop :=
 ∀ (pins:List (Addr×Obj)) (s:Shared) (σ:St) (H:Hp) (x:V) (xs:List V) (v:Value) (us:List Value) (Q:VK),Inv X pins σ H s->bI x v->bJ xs us->r x xs H Q ->
  wpAny (model X.prog X.w) X.A (call (.builtin id) (v::us)) (EP X pins σ Q) X.xe s
theorem bJ.one {x:V} (r:bJ [x] us):∃ u,us = [u]/\bI x u:=kJ r
theorem bJ.two {x:V} (r:bJ [x,y] us):∃ u v,us = [u,v]/\bI x u/\bI y v:=mE r
theorem bJ.zero:∀ {us:List Value},bJ [] us->us = []
 | _,.nil=>rfl
theorem bJ.eraseIdx:∀ {xs:List V} {us:List Value} (i:Nat),bJ xs us->bJ (xs.eraseIdx i) (us.eraseIdx i)
 | _,_,_,.nil=>.nil
 | _,_,0,.cons _ t=>t
 | _,_,i+1,.cons r t=>.cons r (bJ.eraseIdx i t)
theorem bJ.reverse (h:bJ xs us):bJ xs.reverse us.reverse:=by
 induction h with
 | nil=>exact .nil
 | cons r t ih=>rw [Zr,Zr]; exact bJ.append ih (.cons r .nil)
theorem bJ.rep (h:bJ xs us):∀ k:Nat,bJ (List.replicate k xs).flatten (List.replicate k us).flatten
 | 0=>.nil
 | k+1=>by
  rw [Xi,Xi,Xx,Xx]
  exact bJ.append h (bJ.rep h k)
theorem vB:∀ (l:List α) (i:Nat),(l.eraseIdx i).length<=l.length
 | [],_=>Qg _
 | _::_,0=>Nat.le_succ _
 | _::r,i+1=>Zx (vB r i)
theorem pU (its:List Value):∀ (k:Nat) (acc:List Value),
  List.foldl (fun x1 x2=>x1++x2) acc.toArray (List.replicate k its.toArray)=(acc++(List.replicate k its).flatten).toArray
 | 0,acc=>by simp
 | k+1,acc=>by
  have e:acc.toArray++its.toArray=(acc++its).toArray:=by simp
  have e2:(acc++its)++(List.replicate k its).flatten=acc++(List.replicate (k+1) its).flatten:=by
   rw [Xi,Xx,List.append_assoc]
  rw [<- e2,<- pU its k (acc++its),<- e,Xi,List.foldl_cons]
section
variable {σ:St} {l:Addr}
theorem Inv.lset {its its':List Value} {f:Array Value->Array Value} (I:Inv X pins σ H s) (hH:H l=some (.lst xs)) (e:s.heap.get? l=some { cls:=.type "list",data:=.seq its.toArray n }) (hf:f its.toArray=its'.toArray) (hv:bJ ys its') (hz:ys.length<=sizeLine) :
  Inv X pins σ (upd H l (.lst ys)) { s with heap:=s.heap.update l (Obj.mapSeq f),toks:=t' }:=by
 have q:=PySem.IsL.update e f
 rw [hf] at q
 refine I.write (x:=l) (e:=l) (by rw [hH]; exact trivial) (.inl rfl) (fun b' u hb hu=>(Jo s.heap (Obj.mapSeq f) (Ne.symm hb)).trans hu) ⟨_,q⟩ ?_
 exact ⟨hz,its',_,hv,q⟩
theorem Inv.lnew {its:List Value} (I:Inv X pins σ H s) (hv:bJ ys its) (hz:ys.length<=sizeLine) :
  Inv X pins σ (upd H s.heap.objs.size (.lst ys)) { s with heap:=s.heap.push { cls:=.type "list",data:=.seq its.toArray },toks:=t' } :=
 I.laid (fun _ _ q=>Qa _ q) (Qg _) ⟨hz,its,0,hv,Qm _ rfl⟩
theorem Inv.fresh (I:Inv X pins σ H s):H s.heap.objs.size=none:=I.hok.fresh (Qg _)
theorem Inv.lstM (I:Inv X pins σ H s) (hH:H l=some (.lst xs)):xs.length<=sizeLine/\∃ (its:List Value) (n:Nat),bJ xs its/\xs.length=its.length/\s.heap.get? l=some { cls:=.type "list",data:=.seq its.toArray n }:=by
 obtain ⟨z,its,n,r,e⟩:=I.hok l _ hH
 exact ⟨z,its,n,r,r.length,e⟩
end
def vY:V->List V->Hp->VK->Prop:=fun x vs H Q=>∃ l xs y,x=.ref l/\vs = [y]/\H l=some (.lst xs)/\xs.length < sizeLine/\Q .non (upd H l (.lst (xs++[y])))
theorem fY:MtM X "list.append" vY:=by
 intro pins s σ H x vs v us Q I rx rv h
 obtain ⟨l,xs,y,rfl,rfl,hH,hz,q⟩:=h
 cases rx
 obtain ⟨u,rfl,ru⟩:=rv.one
 obtain ⟨z,its,n,r,hl,e⟩:=I.lstM hH
 refine call_meets F.slot_list_append ⟨_,e,rfl⟩ F.entry_list_append (F.args_list_append_2 _ _) (PySem.list_append l its.toArray n u (by rw [Qk]; omega)) ⟨e,?_⟩
 refine ⟨.non,_,I.lset (its':=its++[u]) hH e (by simp) (r.append (.cons ru .nil)) ?_,rfl,q⟩
 rw [Qt,Jw]
 omega
def aFL:V->List V->Hp->VK->Prop:=fun x vs H Q=>∃ l xs i k y,x=.ref l/\vs = [.int i]/\H l=some (.lst xs)/\-(2^63)<=i/\i < 2^63/\seqIndex? i xs.length=some k/\xs[k]?=some y/\Q y (upd H l (.lst (xs.eraseIdx k)))
theorem aCz:MtM X "list.pop" aFL:=by
 intro pins s σ H x vs v us Q I rx rv h
 obtain ⟨l,xs,i,k,y,rfl,rfl,hH,h1,h2,hk,hy,q⟩:=h
 cases rx
 obtain ⟨u,rfl,ru⟩:=rv.one
 obtain ⟨t,rfl⟩:=ru
 obtain ⟨z,its,n,r,hl,e⟩:=I.lstM hH
 obtain ⟨w,hw,rw'⟩:=r.get hy
 refine call_meets F.slot_list_pop ⟨_,e,rfl⟩ F.entry_list_pop (F.args_list_pop_2 _ _)
  (MeetsSeq.list_pop_at l its.toArray n i t k w (fitsIndex_both h1 h2) (by rw [Qk,<- hl]; exact hk) (by rw [<- Array.getElem?_toList]; exact hw) (by rw [Qk]; omega)) ⟨e,?_⟩
 refine ⟨y,_,I.lset (its':=its.eraseIdx k) hH e ?_ (r.eraseIdx k) ?_,rw',q⟩
 ·show its.toArray.eraseIdxIfInBounds k=(its.eraseIdx k).toArray
  rw [List.eraseIdxIfInBounds_toArray]
 ·have:=vB xs k
  omega
def aFM:R2:=fun x y H Q=>∃ l b xs zs,x=.ref l/\y=.ref b/\H l=some (.lst xs)/\H b=some (.lst zs)/\xs.length+zs.length<=sizeLine/\∀ p,H p=none->Q (.ref p) (upd H p (.lst (xs++zs)))
theorem hG:OpR X (binaryOp .Add) aFM:=by
 intro pins s σ H x y v u Q I rx ry h
 obtain ⟨l,b,xs,zs,rfl,rfl,hH,hB,hz,q⟩:=h
 cases rx
 cases ry
 obtain ⟨z,its,n,r,hl,e⟩:=I.lstM hH
 obtain ⟨z2,its2,n2,r2,hl2,e2⟩:=I.lstM hB
 refine PySem.P.add_list e e2 ?_ (by rw [Qk,Qk]; omega)
 have ea:its.toArray++its2.toArray=(its++its2).toArray:=by simp
 rw [ea]
 exact ⟨.ref _,_,I.lnew (t':=s.toks) (r.append r2) (by rw [Qt]; omega),rfl,q _ I.fresh⟩
theorem aAQ (xs:List α) (k:Nat):(List.replicate k xs).flatten.length=k*xs.length:=by
 induction k with
 | zero=>simp
 | succ k ih=>rw [Xi,Xx,Qt,ih,Nat.succ_mul,Nat.add_comm]
end L2
namespace Att
open PySem PySem.W PySem.Calls PyProof.Rows
theorem rG {P:Params}:∀ (ns:List Int) (vs:List Value),WellAll P h vs (ns.map WData.int)->IntsAre vs ns:=by
 intro ns
 induction ns with
 | nil =>
  intro vs w
  rw [Wx] at w
  cases w
  exact .nil
 | cons n ns ih =>
  intro vs w
  rw [Jk] at w
  cases w with
  | cons a b =>
   cases a
   exact .cons _ _ (ih _ b)
theorem aBD {l:OpenLaw} (hn:l.most=some n) {P:Params} {args:List WData} {vals:List Value} (hpre:l.row.toRowW.claim.pre args=true) (hwl:WellAll P h vals args) :
  ∃ a vs ns,vals = [Value.ref a]/\args = [WData.list (ns.map WData.int)]/\h.get? a=some { cls:=.type "list",data:=.seq vs.toArray }/\IntsAre vs ns/\ns.length<=n:=by
 have hsh:WShape.hasAll [] args [.list .int]=true:=(pre_splitW hpre).1
 have hc:l.pre.holds [] { args:=args }=true:=(pre_splitW hpre).2
 obtain ⟨d,r,rfl,h1,h2⟩:=hasAllW_cons hsh
 obtain rfl:=hasAllW_nil h2
 obtain ⟨xs,rfl,h3⟩:=hasW_list h1
 obtain ⟨ns,rfl⟩:=items_int h3
 have hlen:ns.length<=n:=by
  unfold OpenLaw.pre at hc
  have h4:(WTm.not (.lt (.lit (.int (n:Int))) (.len (.arg 0)))).holds [] { args:=[.list (ns.map .int)] }=true:=by
   have h4:=(holds_andW hc).1
   rw [hn] at h4
   exact h4
  have h5:=condW_of h4 (w_not (w_lt w_lit (w_len_list (w_arg rfl))))
  rw [Qb] at h5
  refine Nat.le_of_not_lt fun q=>?_
  have q':(n:Int) < ((ns.length:Nat):Int):=by omega
  first
   | (rw [decide_eq_true q'] at h5; exact absurd h5 (by decide))
   | (simp at h5; omega)
 cases hwl with
 | cons w1 w2 =>
  cases w2
  cases w1 with
  | list ho hall=>exact ⟨_,_,ns,rfl,rfl,ho,rG ns _ hall,hlen⟩
theorem aBE (l:OpenLaw) (args:List WData):l.row.toRowW.claim.post args (.bool true) args=true :=
 postW_of (r:=l.row.toRowW) (X:=(true==true))
  (show WShape.has [] (.bool true) .bool=true by first | rfl | decide | simp [WShape.has,WShape.arms,WShape.armsAll])
  (show (WTm.eq .res (.lit (.bool true))).value [] { args:=args,res:=some (.bool true),after:=args }=some (.bool (true==true)) from w_eq_bool (w_res rfl) w_lit) rfl
theorem attach_call {l:OpenLaw} {d:DefRec} (hn:l.most=some n) (hdf:d.params.defaults = []) (call:∀ (w:World) (s₀ s₁:Shared) (mg mb:Str->Option Value) (fa:Addr) (o:Obj) (pm cd doc:Value) (a:Addr) (vs:List Value) (ns:List Int),
   Ground q loose [] XP w s₀ mg mb s₁.heap->YP w s₁.heap ->
   s₁.heap.get? fa=some o->o.data=.func (docDef d.name d.params d.body d.scope pm cd doc)->s₁.heap.CodeRec cd d.name->mg d.name=some (.ref fa) ->
   s₁.heap.get? a=some { cls:=.type "list",data:=.seq vs.toArray }->IntsAre vs ns->ns.length<=n->s₁.gens = #[] ->
   codeAny (model l.prog w) callerA (.call (.ref fa) ⟨[.ref a],[]⟩) (fun r s'=>r=.ok (.ret (.bool true))/\OldK s₁.heap s'.heap/\s'.os=s₁.os/\AllBare s'.gens) s₁) :
  WalkO q loose XP YP l.row.toRowW d [] (fun f vs=>PySem.call f vs):=by
 intro w s₀ s₁ mg mb G Y fa o pm cd doc dV kV ho hd hcd hD hmg hg args vals as hpre hlay hrd hwl hlo
 obtain rfl:dV=.none:=Dflts.none hD hdf
 obtain rfl:kV=.none:=Dflts.noKw hD
 obtain ⟨a,vs,ns,rfl,rfl,hobj,hints,hlen⟩:=aBD hn hpre hwl
 refine enter_call (codeAny_mono (call w s₀ s₁ mg mb fa o pm cd doc a vs ns G Y ho (fd_plain hd) hcd hmg hobj hints hlen hg) fun r s' hq=>?_)
 obtain ⟨rfl,h2,h3,h4⟩:=hq
 exact ⟨.inl ⟨.bool true,.bool true,[],rfl,fun _=>rfl,.bool true,aBE l _,fun _=>⟨List.Pairwise.nil,fun _ hm=>(nomatch hm)⟩⟩,h2,h3,h4⟩
section
variable {K:Frag}
end
end Att
namespace L2
open PySem PySem.Spec PyProof.Rows
theorem aBF:∀ {vs:List Value} {ns:List Int},IntsAre vs ns->bJ (ns.map V.int) vs
 := by
 intro vs ns h
 induction h with
 | nil=>exact .nil
 | cons n t h ih=>exact .cons ⟨t,rfl⟩ ih
def aFN (H:Hp):Prop:=∀ b,H b=none∨∃ o xs,H b=some (.frz o (.lst xs))
theorem aCA {mb:Str->Option Value} {k:Nat} {fa:Addr} {s₁:Shared} {vs:List Value} (KX:K.In s₁.heap) (hns:s₁.heap.Ns mainGlobals mg) (hb:s₁.heap.Ns builtinsNs mb) (hbb:∀ x:Str,x ≠ "__name__" -> mb x=bootBuiltins x) (hlim:s₁.heap.NoLimit) (hmod:∃ mm,s₁.heap.Ns sysModules mm) (hg:s₁.gens = #[]) (ha:s₁.heap.get? a=some { cls:=.type "list",data:=.seq vs.toArray }) (hi:IntsAre vs ns) (hl:ns.length<=sizeLine) (hr:Room k callerA) (F:∀ base:Heap,K.In base->base.Ns mainGlobals mg->FnOk P w K mg base CX k fa fd [x] sp) (hbind:∀ (s:Shared) (u:Value),BindsTo s fd ⟨[u],[]⟩ [(x,u)]) (hsp:∀ H:Hp,aFN H->SqL K H a (ns.map V.int)->sp [.ref a] H (fun v _=>v=.bl true) fun _ _ _=>False) (hCX:∀ H e s',CX [] H s₁ (fun _ _ _=>False) e s'->False) :
  codeAny (model P w) callerA (.call (.ref fa) ⟨[.ref a],[]⟩) (fun r s'=>r=.ok (.ret (.bool true))/\OldK s₁.heap s'.heap/\s'.os=s₁.os/\AllBare s'.gens) s₁:=by
 have rv:=aBF hi
 have lenV:=hi.length
 -- from an abstract heap in which nothing but the script may be tracked
 have core:∀ H:Hp,aFN H->SqL K H a (ns.map V.int)->HOk P w H s₁.heap->(∀ b,H b≠none->b=a)->(H a≠none->K.lookup a=none) ->
   codeAny (model P w) callerA (.call (.ref fa) ⟨[.ref a],[]⟩) (fun r s'=>r=.ok (.ret (.bool true))/\OldK s₁.heap s'.heap/\s'.os=s₁.os/\AllBare s'.gens) s₁:=by
  intro H hO hS hok hA hK
  have base_of:∀ {b:Addr} {o:Obj},s₁.heap.get? b=some o->H b=none->(vS s₁.heap H).get? b=some o:=fun e n=>aCn e n
  have noA:∀ {b:Addr} {o:Obj} {es:Array DictEntry} {ep:Nat},s₁.heap.get? b=some o->o.data=.dict es ep->H b=none:=fun {b o es ep} e d=>by
   cases q:H b with
   | none=>rfl
   | some u =>
    have e':b=a:=hA b (by rw [q]; simp)
    subst e'
    rw [ha] at e; cases e
    have d':Data.seq vs.toArray _=Data.dict es ep:=d
    cases d'
  have nsK:∀ {b:Addr} {m:Str->Option Value},s₁.heap.Ns b m->(vS s₁.heap H).Ns b m:=fun {b m} ⟨o,es,ep,e,d,r⟩=>⟨o,es,ep,base_of e (noA e d),d,r⟩
  have hKb:K.In (vS s₁.heap H):=fun b o e=>base_of (KX b o e) (by
   cases q:H b with
   | none=>rfl
   | some u =>
    have e':b=a:=hA b (by rw [q]; simp)
    subst e'
    rw [hK (by rw [q]; simp)] at e; cases e)
  have hM:Mod K mg (vS s₁.heap H):=⟨hKb,nsK hns,⟨mb,nsK hb,hbb⟩,let ⟨mc,h1,h2⟩:=hlim; ⟨mc,nsK h1,h2⟩,let ⟨mm,h1⟩:=hmod; ⟨mm,nsK h1⟩⟩
  have e0:Env0 P w K mg (vS s₁.heap H) callerA [] s₁ H:=⟨rfl,hM,fun b o e=>aDW e,Nat.le_of_eq (aBv _ _),trivial,fun b hb=>absurd (show b∈([]:List Addr) from hb) (by simp),hok,.of_eq hg⟩
  refine codeAny_mono ((F _ hKb (nsK hns)).run callerA [] s₁ H ⟨[.ref a],[]⟩ [.ref a] [.ref a] _ _ hr e0 (hbind s₁ (.ref a)) (.cons rfl .nil) (hsp H hO hS)) fun r s' h=>?_
  cases r with
  | error e=>exact (hCX H e s' h).elim
  | ok fl =>
   cases fl with
   | next=>exact False.elim h
   | brk=>exact False.elim h
   | cont=>exact False.elim h
   | ret u =>
    obtain ⟨v,H',os,bare,un,hok',r',q⟩:=h
    have q':v=.bl true:=q
    subst q'
    obtain rfl:u=Value.bool true:=r'
    refine ⟨rfl,OldK.of_keep fun b o e=>?_,os,bare⟩
    cases q:H b with
    | none=>exact un.keep b o e q (by intro z; exact absurd (show b∈([]:List Addr) from z) (by simp)) (by simp)
    | some u =>
     rcases hO b with z | ⟨ob,xs,z⟩
     ·rw [q] at z; cases z
     ·have z2:=un.frzs b ob _ z
      obtain ⟨e1,_⟩:=hok b _ z
      obtain ⟨e2,_⟩:=hok' b _ z2
      rw [e] at e1; cases e1
      exact e2
 cases hk:K.lookup a with
 | some o =>
  -- the script is one of the module's own objects
  have e:=KX a o hk
  rw [ha] at e
  cases e
  refine core (fun _=>none) (fun _=>.inl rfl) (.inr ⟨_,vs.toArray,_,hk,rfl,rfl,rfl,by rw [Qk,lenV]; exact hl,by simpa using rv⟩) (fun b u z=>by have z':(none:Option HO)=some u:=z; cases z') (fun b z=>absurd rfl z) fun z=>absurd rfl z
 | none =>
  refine core (fun b=>if b=a then some (.frz { cls:=.type "list",data:=.seq vs.toArray } (.lst (ns.map V.int))) else none) (fun b=>?_) (.inl (.inr ⟨{ cls:=.type "list",data:=.seq vs.toArray },if_pos rfl⟩)) (fun b u z=>?_) (fun b z=>?_) fun _=>hk
  ·by_cases hb:b=a
   ·exact .inr ⟨_,_,if_pos hb⟩
   ·exact .inl (if_neg hb)
  ·by_cases hb:b=a
   ·have z':=(if_pos hb).symm.trans z
    cases z'
    subst hb
    exact ⟨ha,by rw [Qb]; exact hl,vs,_,rv,ha⟩
   ·have z':=(if_neg hb).symm.trans z
    cases z'
  ·by_cases hb:b=a
   ·exact hb
   ·exact absurd (if_neg hb) z
theorem aD6 {l:PySem.W.OpenLaw} {k:Nat} {d:DefRec} {K:Params->PySem.W.Frag} {CX:World->CXT} {sp:World->Sp} (hn:l.most=some n) (hn2:n<=sizeLine) (hdf:d.params.defaults = []) (hr:Room k callerA) (hq:importsNone q=true) (hY:∀ (w:World) (h:Heap),YP w h->(K w.params).In h) (F:∀ (w:World) (mg:Str->Option Value) (fa:Addr) (h:Heap),(K w.params).In h->h.Ns mainGlobals mg->mg d.name=some (.ref fa) ->
   ∃ fd:FuncData,(∀ (s:Shared) (u:Value),BindsTo s fd ⟨[u],[]⟩ [(x,u)]) /\
    ∀ base:Heap,(K w.params).In base->base.Ns mainGlobals mg->FnOk l.prog w (K w.params) mg base (CX w) k fa fd [x] (sp w)) (hsp:∀ (w:World) (H:Hp) (a:Addr) (ns:List Int),ns.length<=n->aFN H->SqL (K w.params) H a (ns.map V.int)->sp w [.ref a] H (fun v _=>v=.bl true) fun _ _ _=>False) (hCX:∀ (w:World) (H:Hp) (s:Shared) (e:Value) (s':Shared),CX w [] H s (fun _ _ _=>False) e s'->False) :
  PySem.W.WalkO q loose XP YP l.row.toRowW d [] (fun f vs=>PySem.call f vs):=by
 refine Att.attach_call hn hdf fun w s₀ s₁ mg mb fa o pm cd doc a vs ns G Y ho hd hcd hmg hobj hints hlen hg=>?_
 have KX:=hY w _ Y
 obtain ⟨fd,hb,hF⟩:=F w mg fa _ KX G.T.g hmg
 exact aCA KX G.T.g G.T.b G.T.builtins G.T.nolimit (let ⟨mm,h1,_⟩:=(G.T.seer hq).mods; ⟨mm,h1⟩) hg hobj hints (Qu hlen hn2) hr hF hb (fun H hO hS=>hsp w H a ns hlen hO hS) fun H e s'=>hCX w H s₁ e s'
def mZ (s:Stmt):Arguments:=match s with
 | .FunctionDef _ a _ _ _ _ _ _ _ _=>a
 | _=>{ posonlyargs:=[],args:=[],vararg:=none,kwonlyargs:=[],kw_defaults:=[],kwarg:=none,defaults:=[] }
def gZ (s:Stmt):List Stmt:=match s with
 | .FunctionDef _ _ b _ _ _ _ _ _ _=>b
 | _=>[]
def aI (s:Stmt):Scope:=match s with
 | .FunctionDef _ _ _ _ _ _ sc _ _ _=>sc
 | _=>{ kind:=.function,names:=[],isGenerator:=false,isCoroutine:=false }
abbrev CX0:CXT:=fun _ _ _ _ _ _=>False
abbrev E0:XK:=fun _ _ _=>False
theorem aGL:aAd CX0 X E0:=fun _ _ _ _ _ _ _ h=>h.elim
structure Fun (K:PySem.W.Frag) (x qual:Str) (st:Stmt) (f:Addr) (fd:FuncData):Prop where
 ex:∃ (oc:Value) (od:Option Addr) (kV doc pm:Value) (an:Option Addr) (cdv ct:Value) (osl:Array (Option Value)),
  fd=PySem.W.fnOf x qual (mZ st) (gZ st) (aI st) .none kV doc pm an cdv ct/\K.lookup f=some ⟨oc,od,.func fd,osl⟩/\PySem.W.codeIn K cdv qual=true
 kp:PySem.W.keepIn K (.ref f)=true
theorem Fun.ok {k:Nat} (F:Fun K x qual st f fd) (S:FnScope N ps (aI st)) (len:∀ vs H Q E,sp vs H Q E->vs.length=ps.length) (hbody:∀ (cdv:Value) (A:Around) (outer:List Env) (s:Shared) (H:Hp) (vs:List V) (Q:VK) (E:XK),Room k (A.deeper (envOfC qual (aI st) s.heap.objs.size f cdv))->sp vs H Q E ->
   ∃ t,PSs (aBB CX0 P w K mg base N qual (aI st) f cdv A outer s H E).nox (gZ st) t/\t { nx:=fun _ H'=>Q .non H',rt:=Q } (start N vs) H):FnOk P w K mg base CX0 (k+1) f fd ps sp:=by
 obtain ⟨oc,od,kV,doc,pm,an,cdv,ct,osl,rfl,lk,hcd⟩:=F.ex
 refine aGG lk hcd S len fun A outer s H vs Q E hr hsp=>?_
 obtain ⟨t,h,q⟩:=hbody cdv A outer s H vs Q E hr hsp
 exact ⟨t,h.nox,q⟩
theorem Fun.binds (F:Fun K x qual st f fd) (h:∀ (kV doc pm:Value) (an:Option Addr) (cdv ct:Value) (us:List Value),us.length=ps.length->bindArgs (PySem.W.fnOf x qual (mZ st) (gZ st) (aI st) .none kV doc pm an cdv ct) ⟨us,[]⟩=pure (ps.zip us)):uW K fd ps []:=by
 obtain ⟨oc,od,kV,doc,pm,an,cdv,ct,osl,rfl,lk,hcd⟩:=F.ex
 exact .all (h kV doc pm an cdv ct)
theorem aFO {kV:Value} (l:K.lookup f=some ⟨oc,od,.func (PySem.W.fnOf x qual (mZ st) (gZ st) (aI st) .none kV doc pm an cdv ct),osl⟩) (c:PySem.W.codeIn K cdv qual=true) (k:PySem.W.keepIn K (.ref f)=true):Fun K x qual st f (PySem.W.fnOf x qual (mZ st) (gZ st) (aI st) .none kV doc pm an cdv ct):=⟨⟨oc,od,kV,doc,pm,an,cdv,ct,osl,rfl,l,c⟩,k⟩
theorem lW {k:Nat} (hr:Room k A):A.units+1 < cLine:=Jy (Nat.add_le_add_left (by decide:1<=64) _) hr.units
theorem vC (h:n<=1000):n < sizeLine:=Jy h (by decide)
theorem pv (i:Nat) {pos:Pos} (hN:X.N[i]?=some x:=by rfl) (hv:Vis X.env.scope x:=by first | exact Or.inl rfl | exact Or.inr (Or.inl rfl) | exact Or.inr (Or.inr rfl)) (hd:(x==("__debug__" : Str))=false:=by decide) (hcd:(x==("__classdict__" : Str))=false:=by decide):PE X (.Name x pos) (uH i):=aFs hN hv hd hcd
theorem gR {A:Prop} (h:B):if false=true then A else B:=by
 rw [if_neg Qx]
 exact h
theorem hZ {A:Prop} (h:A):if true=true then A else B:=by
 rw [if_pos rfl]
 exact h
theorem gD {c A:Prop} [Decidable c] (h1:c->A) (h2:¬ c->B):if c then A else B:=by
 by_cases h:c
 ·rw [if_pos h]
  exact h1 h
 ·rw [if_neg h]
  exact h2 h
def aD (H H':Hp):Prop:=∀ b o,H b=some o->H' b=some o
theorem aD.refl (H:Hp):aD H H:=fun _ _ h=>h
theorem aD.trans (a:aD H H1) (b:aD H1 H2):aD H H2:=fun c o h=>b c o (a c o h)
theorem aD.free (e:aD H H') {l:Addr} (h:H' l=Option.none):H l=Option.none:=by
 cases q:H l with
 | none=>rfl
 | some o =>
  rw [e l o q] at h
  cases h
theorem aD.seq (e:aD H H') (h:SqL K H a xs):SqL K H' a xs:=by
 rcases h with (h | ⟨o,h⟩) | h
 ·exact .inl (.inl (e _ _ h))
 ·exact .inl (.inr ⟨o,e _ _ h⟩)
 ·exact .inr h
def cV (env:Env):List (Str×NameKind)->List (Str×Addr)->List (Str×Addr)
 | [],acc=>acc
 | (n,k)::r,acc=>if k==.free then (match env.cells.lookup n with | some c=>cV env r ((n,c)::acc) | none=>cV env r acc) else cV env r acc
theorem yA {env:Env}:∀ (names:List (Str×NameKind)) (acc:List (Str×Addr)),(∀ y∈names,y.2=.free->∃ c,env.cells.lookup y.1=some c) ->
  (forIn names acc fun (x:Str×NameKind) (r:List (Str×Addr))=>(match x with
   | (name,kind)=>if (kind==NameKind.free)=true then (do let a<-cellOf env name; pure (ForInStep.yield ((name,a)::r))) else pure (ForInStep.yield r):Sem (ForInStep (List (Str×Addr)))))=(pure (cV env names acc):Sem _)
 | [],acc,_=>rfl
 | (n,k)::r,acc,h=>by
  have ih:=fun acc=>yA r acc fun y hy=>h y (Qs _ hy)
  rw [Xn]
  by_cases hk:(k==NameKind.free)=true
  ·obtain ⟨c,hc⟩:=h (n,k) Qn (by simpa using hk)
   have e1:cV env ((n,k)::r) acc=cV env r ((n,c)::acc):=by
    show (if k==.free then _ else _)=_
    rw [if_pos hk]; simp only at hc; rw [hc]
   simp only at hc
   rw [e1,<- ih]
   simp only [hk,if_true,cellOf,hc]
   rfl
  ·have e1:cV env ((n,k)::r) acc=cV env r acc:=by
    show (if k==.free then _ else _)=_
    rw [if_neg hk]
   rw [e1,<- ih]
   simp only [hk,if_false]
   rfl
theorem aCB {env:Env} (h:∀ y∈scope.names,y.2=.free->∃ c,env.cells.lookup y.1=some c):closureFor scope env=pure (cV env scope.names []):=by
 unfold closureFor
 have e:=yA scope.names [] h
 show (forIn scope.names [] _ >>= _)=_
 exact (congrArg (fun z=>z >>= fun r=>pure r) e).trans rfl
theorem iT {env:Env}:∀ (names:List (Str×NameKind)) (acc:List (Str×Addr)) (n:Str) (c:Addr),(n,c)∈cV env names acc->(n,c)∈acc∨env.cells.lookup n=some c
 | [],_,_,_,h=>.inl h
 | (m,k)::r,acc,n,c,h=>by
  by_cases hk:(k==NameKind.free)=true
  ·rw [show cV env ((m,k)::r) acc=(match env.cells.lookup m with | some c=>cV env r ((m,c)::acc) | none=>cV env r acc) from if_pos hk] at h
   cases e:env.cells.lookup m with
   | none=>rw [e] at h; exact iT r acc n c h
   | some d =>
    rw [e] at h
    rcases iT r _ n c h with q | q
    ·rcases Qj.mp q with q | q
     ·cases q; exact .inr e
     ·exact .inl q
    ·exact .inr q
  ·rw [show cV env ((m,k)::r) acc=cV env r acc from if_neg hk] at h
   exact iT r acc n c h
theorem jO {env:Env}:∀ (names:List (Str×NameKind)) (acc:List (Str×Addr)) (n:Str),((∃ c,(n,c)∈acc)∨((n,NameKind.free)∈names/\∃ c,env.cells.lookup n=some c))->∃ c,(n,c)∈cV env names acc
 | [],_,_,h=>by
  rcases h with h | ⟨h,_⟩
  ·exact h
  ·cases h
 | (m,k)::r,acc,n,h=>by
  by_cases hk:(k==NameKind.free)=true
  ·rw [show cV env ((m,k)::r) acc=(match env.cells.lookup m with | some c=>cV env r ((m,c)::acc) | none=>cV env r acc) from if_pos hk]
   cases e:env.cells.lookup m with
   | none =>
    refine jO r acc n ?_
    rcases h with h | ⟨h,c,hc⟩
    ·exact .inl h
    ·rcases Qj.mp h with h | h
     ·cases h; rw [e] at hc; cases hc
     ·exact .inr ⟨h,c,hc⟩
   | some d =>
    refine jO r _ n ?_
    rcases h with ⟨c,h⟩ | ⟨h,c,hc⟩
    ·exact .inl ⟨c,Qs _ h⟩
    ·rcases Qj.mp h with h | h
     ·cases h; exact .inl ⟨d,Qn⟩
     ·exact .inr ⟨h,c,hc⟩
  ·rw [show cV env ((m,k)::r) acc=cV env r acc from if_neg hk]
   refine jO r acc n ?_
   rcases h with h | ⟨h,c,hc⟩
   ·exact .inl h
   ·rcases Qj.mp h with h | h
    ·cases h; exact absurd rfl hk
    ·exact .inr ⟨h,c,hc⟩
theorem eE:∀ {l:List (Str×β)} {a:Str} {b:β},l.lookup a=some b->(a,b)∈l:=PySem.mem_of_lookup_some
theorem iU:∀ {l:List (Str×β)} {a:Str} {b:β},(a,b)∈l->∃ c,l.lookup a=some c
 | (k,v)::l,a,b,h=>by
  rw [Xg]
  by_cases e:(a==k)=true
  ·rw [e]; exact ⟨v,rfl⟩
  ·have e':(a==k)=false:=by simpa using e
   rw [e']
   rcases Qj.mp h with h | h
   ·cases h; simp at e
   ·exact iU h
theorem gE {env:Env} (x:Str):∀ (names:List (Str×NameKind)),
  (names.map fun (n,k)=>if (k==NameKind.free && env.scope.kind==.function && env.kindOf n==some .cell) then (n,NameKind.cell) else (n,k)).lookup x =
   (names.lookup x).map fun k=>if (k==NameKind.free && env.scope.kind==.function && env.kindOf x==some .cell) then NameKind.cell else k
 | []=>rfl
 | (n,k)::r=>by
  have ih:=gE (env:=env) x r
  rw [Jk]
  by_cases e:(x==n)=true
  ·have en:x=n:=by simpa using e
   subst en
   dsimp only
   by_cases c:(k==NameKind.free && env.scope.kind==.function && env.kindOf x==some .cell)=true
   ·rw [if_pos c,Xg,Xg,e]
    simp only [Xj,c,if_true]
   ·rw [if_neg c,Xg,Xg,e]
    simp only [Xj,c]
    rfl
  ·have e':(x==n)=false:=by simpa using e
   dsimp only
   by_cases c:(k==NameKind.free && env.scope.kind==.function && env.kindOf n==some .cell)=true
   ·rw [if_pos c,Xg,Xg,e']; exact ih
   ·rw [if_neg c,Xg,Xg,e']; exact ih
def bC (X:Cx) (scope:Scope) (N:List Str) (C:Addr) (s0:Shared) (H0:Hp) (fp:List Addr):Cx where
 prog:=X.prog
 w:=X.w
 K:=X.K
 mg:=X.mg
 base:=X.base
 A:=X.A
 N:=N
 s₀:=s0
 H₀:=H0
 env:=compEnvC scope (cV X.env scope.names []) C X.env
 outer:=X.stack
 stack:=X.stack
 ex:=fp
 fn:=fun _=>false
 calm:=X.calm
 pn:=[]
 xe:=fun _ _=>False
def pV (sc scope:Scope) (own:List Str) (frn:List Str):Bool :=
 scope.kind==.function && scope.names.all (fun y=>y.2 !=.cell) && scope.names.all (fun y=>y.2 !=.local || scope.names.lookup y.1==some .local) &&
 scope.names.all (fun y=>y.2 !=.free || sc.names.lookup y.1==some .cell || sc.names.lookup y.1==some .free) && decide (own++frn).Nodup &&
 own.all (fun x=>scope.names.lookup x==some .local) && frn.all (fun x=>scope.names.lookup x==some .free)
def blk (own:Nat) (fr:List Nat) (σ:St):St:=List.replicate own none++fr.map fun j=>(σ[j]?).join
structure CompOk (X:Cx) (scope:Scope) (own:List Str) (fr:List Nat) (frn:List Str):Prop where
 ck:pV X.env.scope scope own frn=true
 ix:∀ (k:Nat) (x:Str),frn[k]?=some x->∃ j:Nat,fr[k]?=some j/\X.N[j]?=some x
 len:fr.length=frn.length
section
variable {fr:List Nat}
theorem CompOk.parts (S:CompOk X scope own fr frn):scope.kind=.function/\(∀ y∈scope.names,y.2≠.cell)/\(∀ y∈scope.names,y.2=.local->scope.names.lookup y.1=some .local) /\
  (∀ y∈scope.names,y.2=.free->X.env.scope.names.lookup y.1=some .cell∨X.env.scope.names.lookup y.1=some .free)/\(own++frn).Nodup/\(∀ x∈own,scope.names.lookup x=some .local)/\∀ x∈frn,scope.names.lookup x=some .free:=by
 have h:=S.ck
 unfold pV at h
 simp only [Jb,Qy,decide_eq_true_eq,Bool.or_eq_true,bne_iff_ne,ne_eq,beq_iff_eq] at h
 obtain ⟨⟨⟨⟨⟨⟨h1,h2⟩,h3⟩,h4⟩,h5⟩,h6⟩,h7⟩:=h
 refine ⟨h1,h2,fun y hy e=>?_,fun y hy e=>?_,h5,h6,h7⟩
 ·rcases h3 y hy with z | z
  ·exact absurd e z
  ·exact z
 ·rcases h4 y hy with (z | z) | z
  ·exact absurd e z
  ·exact .inl z
  ·exact .inr z
theorem aAi (S:CompOk X scope own fr frn) (σ:St):(blk own.length fr σ).length=(own++frn).length:=by
 unfold blk
 rw [Qt,Qt,Xo,Qb,S.len]
theorem yB {σ:St} {tk:Nat} {D:Addr} {oD:Obj} {m:Str->Option Value} (I:Inv X pins σ H s) (S:CompOk X scope own fr frn) (hfp:∀ b∈fp,hX X pins H b) (hlt:∀ b∈fp,b < s.heap.objs.size) (hC:s.heap.objs.size<=C) (hn:h1.Ns C m) (hk:∀ b o,s.heap.get? b=some o->h1.get? b=some o) (hD:s.heap.objs.size<=D) (hDC:D≠C) (hoD:h1.get? D=some oD) (hdD:∀ v,oD.data≠.cell v) :
  Inv (bC X scope (own++frn) C s H fp) [(D,oD)] (blk own.length fr σ) H { s with heap:=h1,toks:=tk }:=by
 obtain ⟨p1,p2,p3,p4,p5,p6,p7⟩:=S.parts
 have below:∀ b,b < s.heap.objs.size->b≠C:=fun b hb z=>Qv _ (Ql (z ▸ hb) hC)
 have clsub:∀ x c,(cV X.env scope.names []).lookup x=some c->X.env.cells.lookup x=some c:=fun x c e=>by
  rcases iT _ _ _ _ (eE e) with q | q
  ·cases q
  ·exact q
 have clt:∀ x c,X.env.cells.lookup x=some c->c < s.heap.objs.size:=fun x c e=>by
  obtain ⟨v,q⟩:=I.cell x c e
  exact q.lt
 have nstk:∀ b∈fp,b∉frs X.stack:=fun b hb z=>by
  obtain ⟨_,f1,f2,_⟩:=hfp b hb
  rcases Qj.mp (I.stkSub b z) with e | e
  ·exact f1 e
  ·exact f2 e
 have Dfs:D∉frs X.stack:=fun z=>by
  have q:=I.stkSub D z
  rcases Qj.mp q with e | e
  ·exact Qv _ (Ql (e ▸ I.lt:D < _) hD)
  ·exact I.nofs hD e
 refine ⟨⟨I.ok.mod,p1,I.ok.glob,I.ok.blt,hC,fun x y c e1 e2=>I.ok.inj x y c (clsub x c e1) (clsub y c e2),fun x hx=>?_,fun x c e=>absurd e (by show ¬ (false=true); decide),I.ok.hd,I.ok.frames,.inl rfl,fun b hb=>?_,I.bs,Qu I.ok.bsz I.sz,fun b o e hb=>?_,nstk,I.stack,I.stkFree⟩,
  rfl,I.bare,Un.kept hk,⟨m,hn,fun i x v e1 e2 e3=>?_⟩,fun x c e=>?_,I.hok.fresh hC,fun x c e=>I.freeC x c (clsub x c e),fun p hp=>?_,I.hok.kept hk,aAi S σ⟩
 ·-- has
  have hx':(relabel scope X.env).names.lookup x=some .cell∨(relabel scope X.env).names.lookup x=some .free:=hx
  have hl:(relabel scope X.env).names.lookup x=_:=gE (env:=X.env) x scope.names
  rw [hl] at hx'
  cases e:scope.names.lookup x with
  | none =>
   rw [e] at hx'
   rcases hx' with z | z <;> cases z
  | some k =>
   have hmem:=eE e
   have hkf:k=.free:=by
    rw [e] at hx'
    simp only [Xj,Option.some.injEq] at hx'
    by_cases c:(k==NameKind.free && X.env.scope.kind==.function && X.env.kindOf x==some .cell)=true
    ·simp only [Jb,beq_iff_eq] at c
     exact c.1.1
    ·rw [if_neg c] at hx'
     rcases hx' with z | z
     ·exact absurd z (p2 _ hmem)
     ·exact z
   subst hkf
   obtain ⟨c,hc⟩:=I.ok.has x (p4 _ hmem rfl)
   obtain ⟨c',hc'⟩:=jO (env:=X.env) scope.names [] x (.inr ⟨hmem,c,hc⟩)
   exact iU hc'
 ·-- exf
  refine ⟨below b (hlt b hb),fun x c e=>?_⟩
  exact (hfp b hb).2.2.2.2.1 x c (clsub x c e)
 ·-- noex
  rcases (hfp b hb).2.2.2.1 with z | z
  ·exact I.ok.noex b o e z
  ·exact absurd (Ql (Qo (I.ok.bs b o e).1) z) (Qv _)
 ·-- loc
  show ∃ u,bI v u/\aFr _ _ _ x u
  have e1':(own++frn)[i]?=some x:=e1
  have e2':(blk own.length fr σ)[i]?=some (some v):=e2
  unfold blk at e2'
  by_cases hi:i < own.length
  ·rw [Ji (by simpa using hi),Xu] at e2'
   rw [if_pos hi] at e2'
   cases e2'
  ·rw [Jm (by simpa using hi)] at e2'
   rw [Jm (by omega)] at e1'
   rw [Xo,Qh] at e2'
   obtain ⟨j,hj1,hj2⟩:=S.ix _ _ e1'
   rw [hj1] at e2'
   simp only [Xj,Option.some.injEq] at e2'
   have hσ:σ[j]?=some (some v):=by
    cases q:σ[j]? with
    | none=>rw [q] at e2'; cases e2'
    | some w=>rw [q] at e2'; exact congrArg some e2'
   have hfree:=p7 x (Qe e1')
   have hmem:=eE hfree
   have kx:=p4 _ hmem rfl
   have vis:Vis X.env.scope x:=by
    rcases kx with z | z
    ·exact .inr (.inl z)
    ·exact .inr (.inr z)
   obtain ⟨m0,hn0,hl0⟩:=I.loc
   obtain ⟨u,ru,lk⟩:=hl0 j x v hj2 hσ vis
   refine ⟨u,ru,.inr ⟨?_,?_⟩⟩
   ·show (relabel scope X.env).names.lookup x=some .cell∨(relabel scope X.env).names.lookup x=some .free
    have hl:(relabel scope X.env).names.lookup x=_:=gE (env:=X.env) x scope.names
    rw [hl,hfree]
    simp only [Xj,Option.some.injEq]
    by_cases c:(NameKind.free==NameKind.free && X.env.scope.kind==.function && X.env.kindOf x==some .cell)=true
    ·rw [if_pos c]; exact .inl rfl
    ·rw [if_neg c]; exact .inr rfl
   ·rcases lk with ⟨kl,_⟩ | ⟨_,c,hc,hcell⟩
    ·have kl':X.env.scope.names.lookup x=some .local:=kl
     rcases kx with z | z <;> (have z':X.env.scope.names.lookup x=_:=z; rw [kl'] at z'; cases z')
    ·obtain ⟨c',hc'⟩:=jO (env:=X.env) scope.names [] x (.inr ⟨hmem,c,hc⟩)
     obtain ⟨c2,hc2⟩:=iU hc'
     have ec:c2=c:=by
      have:=clsub x c2 hc2
      rw [hc] at this
      exact (Option.some.inj this).symm
     subst ec
     obtain ⟨oc,ho,hd⟩:=hcell
     exact ⟨c2,hc2,oc,hk _ _ ho,hd⟩
 ·obtain ⟨v,o,ho,hd⟩:=I.cell x c (clsub x c e)
  exact ⟨v,o,hk _ _ ho,hd⟩
 ·have hp':p∈([]:List (Addr×Obj))++[(D,oD)]:=hp
  simp only [Yb,Qi] at hp'
  subst hp'
  exact ⟨hoD,I.hok.fresh hD,hDC,Dfs,hdD⟩
end
theorem qT {target:Expr} {pos:Pos} {it acc:Value} {env:Env} (I:Nat->Shared->Prop) (turn:∀ n s,I n s->wpAny (model prog w) A (pyNext it) (fun r s₁=>match r with
   | none=>R (.ok .next) s₁
   | some v=>wpAny (model prog w) A (letOwnedTupleGo target it v) (fun _ s₁'=>wpAny (model prog w) A (assign target env v) (fun _ s₂ =>
     wpAny (model prog w) A (forIn ifs true fun c r=>if r=true then do let ok<-isTrue c env (eval c env); pure (ForInStep.yield ok) else pure (ForInStep.yield r)) (fun ok s₃ =>
      if ok=true then wpAny (model prog w) A (eval elt env) (fun x s₄ =>
       wpAny (model prog w) A (call (.builtin "list.append") [acc,x]) (fun _ s₅=>∃ m,m < n/\I m s₅) (fun _ _=>False) s₄) (fun _ _=>False) s₃
      else ∃ m,m < n/\I m s₃) (fun _ _=>False) s₂) (fun _ _=>False) s₁') (fun _ _=>False) s₁) (fun _ _=>False) s) (n:Nat) (h:I n s) :
  codeAny (model prog w) A (.compLoop (.ListComp elt [⟨target,iter,ifs,0⟩] scope pos) 0 it acc env) R s:=by
 refine codeAny_loop rfl I (fun n s hI=>?_) n h
 show wpAny _ A ((compTurn (.ListComp elt [⟨target,iter,ifs,0⟩] scope pos) 0 it acc env).onRaise (fun x=>do noteFrame x env; theTreesLotGoes x)) _ _ s
 refine wpAny_noted ?_
 rw [compTurn_list]
 refine wpAny_bind (wpAny_standAt (wpAny_bind (wpAny_mono (turn n s hI) (fun r s₁ h₁=>?_) fun _ _ h'=>h'.elim)))
 cases r with
 | none=>exact wpAny_pure h₁
 | some v =>
  refine wpAny_bind (wpAny_mono h₁ (fun _ s₁' h₁'=>?_) fun _ _ h'=>h'.elim)
  refine wpAny_bind (wpAny_mono h₁' (fun _ s₂ h₂=>wpAny_bind (wpAny_mono h₂ (fun ok s₃ h₃=>?_) fun _ _ h'=>h'.elim)) fun _ _ h'=>h'.elim)
  cases ok with
  | false=>exact wpAny_pure ⟨rfl,h₃⟩
  | true =>
   exact wpAny_bind (wpAny_bind (wpAny_mono h₃ (fun x s₄ h₄=>wpAny_bind (wpAny_mono h₄ (fun _ s₅ h₅=>wpAny_pure (wpAny_pure ⟨rfl,h₅⟩)) fun _ _ h'=>h'.elim)) fun _ _ h'=>h'.elim))
def PF (X:Cx) (ifs:List Expr) (t:TT):Prop :=
 ∀ (pins:List (Addr×Obj)) (s:Shared) (σ:St) (H:Hp) (Q:Bool->Hp->Prop),Inv X pins σ H s->t σ H Q ->
  wpAny (model X.prog X.w) X.A (forIn ifs true fun c r=>if r=true then do let ok<-isTrue c X.env (eval c X.env); pure (ForInStep.yield ok) else pure (ForInStep.yield r)) (TP X pins σ Q) X.xe s
def aBG:TT:=fun _ H Q=>Q true H
theorem cJ:PF X [] aBG:=fun _ _ _ H _ I h=>wpAny_tests_nil ⟨H,I,h⟩
theorem lG {t:TT} (h:PT X c t):PF X [c] t:=fun pins s σ H Q I hq=>wpAny_tests_one (h pins s σ H Q I hq)
def aAR (own:Nat) (fr:List Nat) (wi:TI) (g:TG) (tt:TT) (te:TE):TE:=fun σ H Q=>wi σ H fun J H1=>∃ W:Nat->Nat->List V->St->Hp->Prop,(∃ m,W 0 m [] (blk own fr σ) H1)/\∀ i m ys σ' H,W i m ys σ' H ->
 (J.stop i H/\∀ p,H p=none->Q (.ref p) (upd H p (.lst ys))) ∨
 (J.go i H/\∃ N:List V->St->Hp->Prop,(∀ ys' σ2 H2,N ys' σ2 H2->∃ m',m' < m/\W (i+1) m' ys' σ2 H2) /\
  ∀ x H',J.yld i H x H'->g x σ' H' fun σ2 H2=>tt σ2 H2 fun b H3=>if b=true then te σ2 H3 fun y H4=>ys.length < sizeLine/\N (ys++[y]) σ2 H4 else N ys σ2 H3)
section
variable {fr:List Nat} {pos:Pos} {wi:TI}
theorem Inv.track {σ:St} {D:Addr} {its:Array Value} (I:Inv X pins σ H s) (hD:s.heap.PlainList D its) (hv:bJ ys its.toList) (hz:ys.length<=sizeLine) (hn:H D=none) (hL:D≠X.env.locals) (h1:X.s₀.heap.objs.size<=D) (h2:∀ x c,X.env.cells.lookup x=some c->c≠D) (h3:∀ p∈X.pn++pins,p.1≠D):Inv X pins σ (upd H D (.lst ys)) s:=by
 have ne:∀ b u,H b=some u->b≠D:=fun b u e z=>by rw [z,hn] at e; cases e
 refine I.step (g':=s.gens) (d':=s.drawn) (t':=s.toks) (h':=s.heap) (ch:=[D]) (fun b hb=>?_) (fun b o _ _ _ e _=>e) (fun b o _ _ _ e _=>⟨o.slots,e⟩) (fun b o hc _ n=>?_) (fun b o _ e=>⟨o,e⟩)
  (fun b xs e=>by rw [aK (ne b _ e)]; exact e) (fun b o u e=>by rw [aK (ne b _ e)]; exact e) (fun b ps e=>⟨#[],by rw [aK (ne b _ e),e]; simp⟩) (fun _ h=>h) (fun b u e=>?_) I.bare
 ·have e:b=D:=by simpa using hb
  subst e
  exact ⟨.inr h1,hL,h2,h3⟩
 ·rw [aK (by simpa using hc)]; exact n
 ·by_cases hb:b=D
  ·subst hb
   rw [aB] at e; cases e
   obtain ⟨n,e⟩:=hD
   exact ⟨hz,its.toList,n,hv,by simpa using e⟩
  ·rw [aK hb] at e
   exact (I.hok b u e).stay (fun c v _ q=>q) (fun c q=>by rw [aK (ne c _ q)]; exact q) fun c xs q=>by rw [aK (ne c _ q)]; exact q
theorem sG {σ:St} {Q:Hp->List V->Prop} (S:CompOk X scope own fr frn) (hc:X.calm=true) (I2:Inv X pins σ H2 s2) (T:Turn X.prog X.w X.K tg J fp it tn) (st2:tn 0 s2.heap) (f2:∀ b∈fp,hX X pins H2 b) (hg:∀ C s0 H0 fp,PG (bC X scope (own++frn) C s0 H0 fp) tg g) (ht:∀ C s0 H0 fp,PF (bC X scope (own++frn) C s0 H0 fp) ifs tt) (he:∀ C s0 H0 fp,PE (bC X scope (own++frn) C s0 H0 fp) elt te) (w:∃ W:Nat->Nat->List V->St->Hp->Prop,(∃ m,W 0 m [] (blk own.length fr σ) H2)/\∀ i m ys σ' H,W i m ys σ' H ->
   (J.stop i H/\Q H ys) ∨
   (J.go i H/\∃ N:List V->St->Hp->Prop,(∀ ys' σ2 H2,N ys' σ2 H2->∃ m',m' < m/\W (i+1) m' ys' σ2 H2) /\
    ∀ x H',J.yld i H x H'->g x σ' H' fun σ2 H2=>tt σ2 H2 fun b H3=>if b=true then te σ2 H3 fun y H4=>ys.length < sizeLine/\N (ys++[y]) σ2 H4 else N ys σ2 H3)) (hRR:∀ (C D:Addr) (s':Shared) (H':Hp) (ys:List V) (its:Array Value) (m:Str->Option Value),s2.heap.objs.size<=C->s2.heap.objs.size<=D->D≠C->s'.heap.Ns C m->H' C=none->H' D=none->s'.heap.PlainList D its->bJ ys its.toList->ys.length<=sizeLine ->
   Inv X pins σ H' s'->Q H' ys->RR (.ref D) C (.ok .next) s') :
  wpAny (model X.prog X.w) X.A (newList []) (fun acc s₃=>wpAny (model X.prog X.w) X.A (newFunctionEnv scope X.env.globals (cV X.env scope.names []) [] X.env.qual none .none (some X.env)) (fun cenv s₄ =>
   codeAny (model X.prog X.w) X.A (.compStart (.ListComp elt [⟨tg,iter,ifs,0⟩] scope pos) 0 (.ref it) acc { cenv with scope:=relabel scope X.env }) (RR acc cenv.locals) s₄) E s₃) E s2:=by
 obtain ⟨p1,p2,p3,p4,p5,p6,p7⟩:=S.parts
 obtain ⟨W,⟨m0,w0⟩,turn⟩:=w
 refine wpAny_newObj_type (wpAny_newFunctionEnv p2 (by intro y hy; simp at hy) (fun h₁ hns₁ hsb₁=>?_) p1)
 dsimp only at hns₁ hsb₁ ⊢
 generalize hH2:s2.heap.push { cls:=.type "list",dict:=none,data:=.seq ([]:List Value).toArray }=HD at hns₁ hsb₁ ⊢
 have hCs:HD.objs.size=s2.heap.objs.size+1:=by rw [<- hH2,Jl]
 have hDC:s2.heap.objs.size≠HD.objs.size:=by omega
 have hCle:s2.heap.objs.size<=HD.objs.size:=by omega
 have below:∀ b,b < s2.heap.objs.size->b≠HD.objs.size/\b≠s2.heap.objs.size:=fun b hb=>⟨by omega,by omega⟩
 have old:∀ b o,s2.heap.get? b=some o->h₁.get? b=some o:=fun b o e=>hsb₁.extBut b o (below b (Qo e)).1 (Qa _ (hH2 ▸ Qa _ e))
 have hacc:h₁.get? s2.heap.objs.size=some { cls:=.type "list",data:=.seq ([]:List Value).toArray }:=hsb₁.extBut _ _ hDC (Qa _ (hH2 ▸ Qm _ rfl))
 have flt:∀ b∈fp,b < s2.heap.objs.size:=fun b hb=>by
  obtain ⟨o,e,_⟩:=T.obj _ _ st2 b hb
  exact Qo e
 generalize hDg:s2.heap.objs.size=D at *
 generalize hCg:HD.objs.size=C at *
 have st3:tn 0 h₁:=T.keep _ _ _ st2 fun b _ o e=>old b o e
 -- facts of the block
 have clsub:∀ x c,(cV X.env scope.names []).lookup x=some c->X.env.cells.lookup x=some c:=fun x c e=>by
  rcases iT _ _ _ _ (eE e) with q | q
  ·cases q
  ·exact q
 have cD:∀ x c,(cV X.env scope.names []).lookup x=some c->c≠D:=fun x c e z=>by
  obtain ⟨v,q⟩:=I2.cell x c (clsub x c e)
  exact Qv _ (Ql q.lt (by rw [hDg,z]; exact Qg _))
 have loop:∀ s₃:Shared,s₃={ s2 with heap:=h₁,toks:=s2.toks+([]:List (Str×Value)).length } ->
   codeAny (model X.prog X.w) X.A (.compLoop (.ListComp elt [⟨tg,iter,ifs,0⟩] scope pos) 0 (.ref it) (.ref D) (compEnvC scope (cV X.env scope.names []) C X.env)) (RR (.ref D) C) s₃:=by
  rintro s₃ rfl
  have I3:Inv (bC X scope (own++frn) C s2 H2 fp) [(D,_)] (blk own.length fr σ) H2 { s2 with heap:=h₁,toks:=s2.toks+([]:List (Str×Value)).length } :=
   yB (m:=fun _=>none) I2 S f2 (by rw [hDg]; exact flt) (by rw [hDg]; exact hCle) (hns₁:h₁.Ns C _) old (by rw [hDg]; exact Qg _) hDC hacc (fun v z=>by cases z)
  have stat:∀ {H':Hp} {pl:List (Addr×Obj)},(∀ p∈pl,p.1=D)->(∀ b∈fp,H' b=none)->∀ b∈fp,hX (bC X scope (own++frn) C s2 H2 fp) pl H' b:=fun {H' pl} hpl hn b hb=>by
   refine ⟨hn b hb,(below b (flt b hb)).1,fun z=>?_,.inl hb,fun x c e=>(f2 b hb).2.2.2.2.1 x c (clsub x c e),fun p hp=>?_⟩
   ·have z':b∈frs X.stack:=z
    rcases Qj.mp (I2.stkSub b z') with e | e
    ·exact (f2 b hb).2.1 e
    ·exact (f2 b hb).2.2.1 e
   ·have hp':p∈pl:=by simpa [bC] using hp
    rw [hpl p hp']
    exact Ne.symm (below b (flt b hb)).2
  refine qT (env:=compEnvC scope (cV X.env scope.names []) C X.env) (fun n s'=>∃ i σ' H' ys its o,Inv (bC X scope (own++frn) C s2 H2 fp) [(D,o)] σ' H' s'/\s'.heap.PlainList D its/\bJ ys its.toList/\ys.length<=sizeLine/\tn i s'.heap/\(∀ b∈fp,H' b=none)/\W i n ys σ' H') ?_ m0
   ⟨0,_,H2,[],#[],_,I3,⟨_,hacc⟩,.nil,Jj _,st3,fun b hb=>(f2 b hb).1,w0⟩
  rintro n s5 ⟨i,σ5,H5,ys,its,o,I5,pl5,v5,z5,st5,fr5,w5⟩
  have one:∀ {o:Obj},∀ p∈[(D,o)],p.1=D:=fun p hp=>by
   have e:=Qi.mp hp
   rw [e]
  rcases turn i n ys σ5 H5 w5 with ⟨stop,qn⟩ | ⟨go,N,hN,step⟩
  ·refine wpAny_mono (T.done (bC X scope (own++frn) C s2 H2 fp) rfl rfl rfl hc i _ s5 σ5 H5 (fun _ _=>False) I5 (stat one fr5) st5 stop) (fun r s6 hx9=>?_) fun _ _ z=>z
   obtain ⟨hr,I6⟩:=hx9
   subst hr
   obtain ⟨m6,hn6,_⟩:=I6.loc
   have p6:=I6.pin (D,o) (by simp [bC])
   have p5':=I5.pin (D,o) (by simp [bC])
   have pl6:s6.heap.PlainList D its:=by
    obtain ⟨k,e⟩:=pl5
    have e1:o=_:=Option.some.inj (p5'.1.symm.trans e)
    exact ⟨k,by rw [p6.1]; exact congrArg some e1⟩
   have IX:Inv X pins σ H5 s6:=I2.call' (ch:=fp) I6.os I6.base I6.hok I6.bare fun b hb=>⟨(f2 b hb).2.2.2.1,(f2 b hb).2.1,(f2 b hb).2.2.2.2.1,(f2 b hb).2.2.2.2.2⟩
   exact hRR C D s6 H5 ys its m6 hCle (Qg _) hDC hn6 I6.free p6.2.1 pl6 v5 z5 IX qn
  ·refine wpAny_mono (T.item (bC X scope (own++frn) C s2 H2 fp) rfl rfl rfl hc i _ s5 σ5 H5 (fun _ _=>False) I5 (stat one fr5) st5 go) (fun r s6 hx9=>?_) fun _ _ z=>z
   obtain ⟨u,hr,h6⟩:=hx9
   subst hr
   refine wpAny_mono h6 (fun _ s7 hx9=>?_) fun _ _ z=>z
   obtain ⟨x,H7,I7,r7,y7,st7,fr7⟩:=hx9
   have I7':=I7.pinned (stat one fr7) (T.obj _ _ st7)
   refine wpAny_mono (hg C s2 H2 fp _ s7 σ5 H7 x u _ I7' r7 (step x H7 y7)) (fun _ s8 hx9=>?_) fun _ _ z=>z
   obtain ⟨σ8,H8,I8,q8⟩:=hx9
   refine wpAny_mono (ht C s2 H2 fp _ s8 σ8 H8 _ I8 q8) (fun b s9 hx9=>?_) fun _ _ z=>z
   obtain ⟨H9,I9,q9⟩:=hx9
   -- what stands of the iterator and of the gathered list behind the tests,behind the item
   have keepT:∀ {H':Hp} {s':Shared} {σ':St},Inv (bC X scope (own++frn) C s2 H2 fp) ([(D,o)]++mB fp s7.heap) σ' H' s'->tn (i+1) s'.heap/\(∀ b∈fp,H' b=none)/\s'.heap.PlainList D its/\H' D=none:=fun {H' s' σ'} I'=>by
    refine ⟨T.keep _ _ _ st7 fun b hb o e=>(I'.pin (b,o) (Qp _ (Qp _ (eI hb e)))).1,fun b hb=>?_,?_,?_⟩
    ·obtain ⟨o,e,d⟩:=T.obj _ _ st7 b hb
     exact (I'.pin (b,o) (Qp _ (Qp _ (eI hb e)))).2.1
    ·have p':=I'.pin (D,o) (by simp [bC])
     have p5':=I5.pin (D,o) (by simp [bC])
     obtain ⟨k,e⟩:=pl5
     have e1:o=_:=Option.some.inj (p5'.1.symm.trans e)
     exact ⟨k,by rw [p'.1]; exact congrArg some e1⟩
    ·exact (I'.pin (D,o) (by simp [bC])).2.1
   cases b with
   | false =>
    rw [if_neg Qx] at q9
    rw [if_neg Qx]
    obtain ⟨m',hm,w'⟩:=hN ys σ8 H9 q9
    obtain ⟨t9,fr9,pl9,_⟩:=keepT I9
    exact ⟨m',hm,i+1,σ8,H9,ys,its,o,I9.unpinned,pl9,v5,z5,t9,fr9,w'⟩
   | true =>
    rw [if_pos rfl] at q9
    rw [if_pos rfl]
    refine wpAny_mono (he C s2 H2 fp _ s9 σ8 H9 _ I9 q9) (fun y s10 hx9=>?_) fun _ _ z=>z
    obtain ⟨yv,H10,I10,r10,lt10,q10⟩:=hx9
    obtain ⟨t10,fr10,pl10,hD10⟩:=keepT I10
    have hl:=v5.length
    refine wpAny_list_append_plain pl10 (fun h11 pl11 sb11=>?_) (by rw [<- Array.length_toList,<- hl]; exact Ze lt10)
    obtain ⟨m',hm,w'⟩:=hN _ σ8 H10 q10
    have I10':Inv (bC X scope (own++frn) C s2 H2 fp) [] σ8 H10 s10:=I10.pins_of fun p hp=>by cases hp
    have I11:Inv (bC X scope (own++frn) C s2 H2 fp) [] σ8 H10 { s10 with heap:=h11 } :=
     I10'.turned (t':=s10.toks) (it:=D) (fun b o hb e=>(sb11.2 b hb).trans e) hD10 hDC (.inr (by show s2.heap.objs.size<=D; rw [hDg]; exact Qg _)) cD (fun p hp=>by simp [bC] at hp)
    obtain ⟨k11,e11⟩:=id pl11
    have DfsX:D∉frs X.stack:=fun z=>by
     rcases Qj.mp (I2.stkSub D z) with e | e
     ·exact Qv _ (Ql I2.lt (by rw [hDg,e]; exact Qg _))
     ·exact I2.nofs (by rw [hDg]; exact Qg _) e
    refine ⟨m',hm,i+1,σ8,H10,ys++[yv],its.push y,{ cls:=.type "list",data:=.seq (its.push y) k11 },I11.pins_of fun p hp=>?_,pl11,?_,by rw [Qt]; show ys.length+1<=_; omega,T.keep _ _ _ t10 fun b hb o e=>(sb11.2 b (below b (flt b hb)).2).trans e,fr10,w'⟩
    ·have e:=Qi.mp hp
     subst e
     exact ⟨e11,hD10,hDC,DfsX,fun v z=>by cases z⟩
    ·rw [Array.toList_push]
     exact v5.append (.cons r10 .nil)
 exact codeAny_compStart_list (loop _ rfl) (T.self X.A 0 _ _ _ st3 (loop _ rfl))
theorem CompOk.clo {σ:St} (S:CompOk X scope own fr frn) (I:Inv X pins σ H s):closureFor scope X.env=pure (cV X.env scope.names []):=by
 obtain ⟨p1,p2,p3,p4,p5,p6,p7⟩:=S.parts
 exact aCB fun y hy e=>I.ok.has y.1 (p4 y hy e)
theorem cF (S:CompOk X scope own fr frn) (hc:X.calm=true) (hi:PI X tg iter wi) (hg:∀ C s0 H0 fp,PG (bC X scope (own++frn) C s0 H0 fp) tg g) (ht:∀ C s0 H0 fp,PF (bC X scope (own++frn) C s0 H0 fp) ifs tt)
  (he:∀ C s0 H0 fp,PE (bC X scope (own++frn) C s0 H0 fp) elt te) (hs:∀ x,foldedSetIterable iter X.env x=pure x:=by intro _; rfl) :
  PE X (.ListComp elt [⟨tg,iter,ifs,0⟩] scope pos) (aAR own.length fr wi g tt te):=by
 intro pins s σ H Q I h
 obtain ⟨p1,p2,p3,p4,p5,p6,p7⟩:=S.parts
 rw [eval_ListComp]
 refine wpAny_comprehension_free (use:=none) rfl hs (S.clo I) p1 p3 (thn (hi pins s σ H _ I h) fun v s1 h1=>thn h1 fun itv s2 h2=>?_)
 obtain ⟨it,fp,tn,J,H2,e,I2,T,st2,f2,hw⟩:=h2
 subst e
 refine sG (RR:=fun acc C=>compPost (model X.prog X.w) X.A X.xe none (EP X pins σ Q) acc C) (Q:=fun H ys=>∀ p,H p=none->Q (.ref p) (upd H p (.lst ys))) S hc I2 T st2 f2 hg ht he hw ?_
 intro C D s' H' ys its m hC hD hDC hns hHC hHD pl v z IX q
 have cne:∀ a,s2.heap.objs.size<=a->∀ x c,X.env.cells.lookup x=some c->c≠a:=fun a ha x c e z=>by
  obtain ⟨v,w⟩:=I2.cell x c e
  exact Qv _ (Ql w.lt (by rw [z]; exact ha))
 have pne:∀ a,s2.heap.objs.size<=a->∀ p∈X.pn++pins,p.1≠a:=fun a ha p hp z=>Qv _ (Ql (Qo (I2.pin p hp).1) (by rw [z]; exact ha))
 have lne:∀ a,s2.heap.objs.size<=a->a≠X.env.locals:=fun a ha z=>Qv _ (Ql I2.lt (by rw [<- z]; exact ha))
 refine ⟨m,hns,fun h' hs'=>⟨.ref D,upd H' D (.lst ys),?_,rfl,q D hHD⟩⟩
 have IT:Inv X pins σ (upd H' D (.lst ys)) s':=IX.track pl v z hHD (lne D hD) (Qu I2.sz hD) (cne D hD) (pne D hD)
 exact IT.turned (t':=s'.toks) (it:=C) (fun b o hb e=>(hs'.2 b hb).trans e) (by rw [aK (Ne.symm hDC)]; exact hHC) (lne C hC) (.inr (Qu I2.sz hC)) (cne C hC) (pne C hC)
theorem eX {i:Nat} {y:Str} {spos:Pos} (S:CompOk X scope own fr frn) (hc:X.calm=true) (hN:X.N.Nodup) (hyi:X.N[i]?=some y) (hx:X.env.scope.names.lookup y=some .local) (hsw:swapsWith (.ListComp elt [⟨tg,iter,ifs,0⟩] scope pos) (some (.Name y py)) spos.line X.env=pure true) (hi:PI X tg iter wi) (hg:∀ C s0 H0 fp,PG (bC X scope (own++frn) C s0 H0 fp) tg g) (ht:∀ C s0 H0 fp,PF (bC X scope (own++frn) C s0 H0 fp) ifs tt) (he:∀ C s0 H0 fp,PE (bC X scope (own++frn) C s0 H0 fp) elt te) (hs:∀ x,foldedSetIterable iter X.env x=pure x:=by intro _; rfl) :
  PS X (.Assign [.Name y py] (.ListComp elt [⟨tg,iter,ifs,0⟩] scope pos) spos) (aCt (aAR own.length fr wi g tt te) (cH i)):=by
 intro pins s σ H D I h
 obtain ⟨p1,p2,p3,p4,p5,p6,p7⟩:=S.parts
 rw [exec_Assign_Name_used _ _ _ _ hsw]
 refine wpAny_bind (wpAny_standAt (wpAny_bind ?_))
 show wpAny _ X.A (do let _<-comprehension (.ListComp elt [⟨tg,iter,ifs,0⟩] scope pos) scope X.env _ (newList []) false (eval iter X.env) (some (assign (.Name y py) X.env))) _ _ s
 refine wpAny_bind (wpAny_mono (wpAny_comprehension_free (use:=some (assign (.Name y py) X.env)) (Q:=fun _ s'=>SP X pins D .next s') rfl hs (S.clo I) p1 p3 (thn (hi pins s σ H _ I h) fun v s1 h1=>thn h1 fun itv s2 h2=>?_))
  (fun _ s' hq=>wpAny_pure (wpAny_pure hq)) fun _ _ e=>e)
 obtain ⟨it,fp,tn,J,H2,e,I2,T,st2,f2,hw⟩:=h2
 subst e
 refine sG (RR:=fun acc C=>compPost (model X.prog X.w) X.A X.xe (some (assign (.Name y py) X.env)) (fun _ s'=>SP X pins D .next s') acc C) (Q:=fun H ys=>∀ p,H p=none->D.nx (σ.set i (some (.ref p))) (upd H p (.lst ys))) S hc I2 T st2 f2 hg ht he hw ?_
 intro C L s' H' ys its m hC hL hLC hns hHC hHL pl v z IX q
 have cne:∀ a,s2.heap.objs.size<=a->∀ x c,X.env.cells.lookup x=some c->c≠a:=fun a ha x c e z=>by
  obtain ⟨v,w⟩:=I2.cell x c e
  exact Qv _ (Ql w.lt (by rw [z]; exact ha))
 have pne:∀ a,s2.heap.objs.size<=a->∀ p∈X.pn++pins,p.1≠a:=fun a ha p hp z=>Qv _ (Ql (Qo (I2.pin p hp).1) (by rw [z]; exact ha))
 have lne:∀ a,s2.heap.objs.size<=a->a≠X.env.locals:=fun a ha z=>Qv _ (Ql I2.lt (by rw [<- z]; exact ha))
 have IT:Inv X pins σ (upd H' L (.lst ys)) s':=IX.track pl v z hHL (lne L hL) (Qu I2.sz hL) (cne L hL) (pne L hL)
 show wpAny _ _ (assign (.Name y py) X.env (.ref L)) _ _ s'
 refine wpAny_assign_Name (pS IT hN hyi (.inl hx) (v:=.ref L) rfl (fun s'' I'' hch=>?_) (.inr hx))
 obtain ⟨a,sb,ha⟩:=hch
 have hCa:C≠a:=by
  rcases ha with e | e
  ·rw [e]; exact lne C hC
  ·exact Ne.symm (cne C hC y a e)
 refine ⟨m,hns.sameBut sb hCa,fun h' hs'=>⟨σ.set i (some (.ref L)),upd H' L (.lst ys),?_,q L hHL⟩⟩
 exact I''.turned (t':=s''.toks) (it:=C) (fun b o hb e=>(hs'.2 b hb).trans e) (by rw [aK (Ne.symm hLC)]; exact hHC) (lne C hC) (.inr (Qu I2.sz hC)) (cne C hC) (pne C hC)
end
inductive Kd where
 | int | bl | non | str | tup | lst | dct
 deriving DecidableEq
def KdV (K:PySem.W.Frag) (H:Hp):V->Kd->Prop
 | .int _,k=>k=.int
 | .bl _,k=>k=.bl
 | .non,k=>k=.non
 | .str _,k=>k=.str
 | .ref p,k=>(k=.lst/\∃ xs,SqL K H p xs)∨(k=.tup/\∃ xs,SqT K H p xs)∨(k=.dct/\∃ kvs,H p=some (.dK kvs))
 | _,_=>False
theorem vZ {σ:St} (I:Inv X pins σ H s) (h:H p=some (.dK kvs)):∃ o,s.heap.get? p=some o/\o.cls=.type "dict" := by
 obtain ⟨_,_,vs,_,o,es,ep,e,ex,_⟩:=I.hok p _ h
 exact ⟨o,e,ex.1⟩
theorem oM:gQ X (.builtin "isinstance") (fun xs H Q=>∃ x k,xs = [x,.ty "int"]/\KdV X.K H x k/\Q (.bl (decide (k=.int∨k=.bl))) H):=by
 intro pins s σ H xs us Q I r h
 obtain ⟨x,k,rfl,hk,q⟩:=h
 obtain ⟨u,t,rfl,rx,rt⟩:=mE r
 cases rt
 cases x with
 | int i=>cases hk; obtain ⟨t,rfl⟩:=rx; exact IsiPair.int_int ⟨.bl true,H,I,rfl,q⟩
 | bl b=>cases hk; cases rx; exact IsiPair.bool_int ⟨.bl true,H,I,rfl,q⟩
 | non=>cases hk; cases rx; exact IsiPair.NoneType_int ⟨.bl false,H,I.tok _,rfl,q⟩
 | str y=>cases hk; obtain ⟨t,rfl⟩:=rx; exact IsiPair.str_int ⟨.bl false,H,I.tok _,rfl,q⟩
 | ref p =>
  cases rx
  rcases hk with ⟨rfl,xs,hx⟩ | ⟨rfl,xs,hx⟩ | ⟨rfl,kvs,hx⟩
  ·obtain ⟨its,r',pl,hz⟩:=I.list hx; exact IsiPair.isList_int pl.isList (fun _ _ e=>e) ⟨.bl false,H,I.tok _,rfl,q⟩
  ·obtain ⟨its,r',pl,hz⟩:=I.tuple hx; exact IsiPair.isTuple_int pl (fun _ _ e=>e) ⟨.bl false,H,I.tok _,rfl,q⟩
  ·obtain ⟨o,e,c⟩:=vZ I hx; exact IsiPair.dict_int e c ⟨.bl false,H,I.tok _,rfl,q⟩
 | _=>exact hk.elim
theorem iQ:gQ X (.builtin "isinstance") (fun xs H Q=>∃ x k,xs = [x,.ty "bool"]/\KdV X.K H x k/\Q (.bl (decide (k=.bl))) H):=by
 intro pins s σ H xs us Q I r h
 obtain ⟨x,k,rfl,hk,q⟩:=h
 obtain ⟨u,t,rfl,rx,rt⟩:=mE r
 cases rt
 cases x with
 | int i=>cases hk; obtain ⟨t,rfl⟩:=rx; exact IsiPair.int_bool ⟨.bl false,H,I.tok _,rfl,q⟩
 | bl b=>cases hk; cases rx; exact IsiPair.bool_bool ⟨.bl true,H,I,rfl,q⟩
 | non=>cases hk; cases rx; exact IsiPair.NoneType_bool ⟨.bl false,H,I.tok _,rfl,q⟩
 | str y=>cases hk; obtain ⟨t,rfl⟩:=rx; exact IsiPair.str_bool ⟨.bl false,H,I.tok _,rfl,q⟩
 | ref p =>
  cases rx
  rcases hk with ⟨rfl,xs,hx⟩ | ⟨rfl,xs,hx⟩ | ⟨rfl,kvs,hx⟩
  ·obtain ⟨its,r',pl,hz⟩:=I.list hx; exact IsiPair.isList_bool pl.isList (fun _ _ e=>e) ⟨.bl false,H,I.tok _,rfl,q⟩
  ·obtain ⟨its,r',pl,hz⟩:=I.tuple hx; exact IsiPair.isTuple_bool pl (fun _ _ e=>e) ⟨.bl false,H,I.tok _,rfl,q⟩
  ·obtain ⟨o,e,c⟩:=vZ I hx; exact IsiPair.dict_bool e c ⟨.bl false,H,I.tok _,rfl,q⟩
 | _=>exact hk.elim
theorem cQ:gQ X (.builtin "isinstance") (fun xs H Q=>∃ x k,xs = [x,.ty "tuple"]/\KdV X.K H x k/\Q (.bl (decide (k=.tup))) H):=by
 intro pins s σ H xs us Q I r h
 obtain ⟨x,k,rfl,hk,q⟩:=h
 obtain ⟨u,t,rfl,rx,rt⟩:=mE r
 cases rt
 cases x with
 | int i=>cases hk; obtain ⟨t,rfl⟩:=rx; exact IsiPair.int_tuple ⟨.bl false,H,I.tok _,rfl,q⟩
 | bl b=>cases hk; cases rx; exact IsiPair.bool_tuple ⟨.bl false,H,I.tok _,rfl,q⟩
 | non=>cases hk; cases rx; exact IsiPair.NoneType_tuple ⟨.bl false,H,I.tok _,rfl,q⟩
 | str y=>cases hk; obtain ⟨t,rfl⟩:=rx; exact IsiPair.str_tuple ⟨.bl false,H,I.tok _,rfl,q⟩
 | ref p =>
  cases rx
  rcases hk with ⟨rfl,xs,hx⟩ | ⟨rfl,xs,hx⟩ | ⟨rfl,kvs,hx⟩
  ·obtain ⟨its,r',pl,hz⟩:=I.list hx; exact IsiPair.isList_tuple pl.isList (fun _ _ e=>e) ⟨.bl false,H,I.tok _,rfl,q⟩
  ·obtain ⟨its,r',pl,hz⟩:=I.tuple hx; exact IsiPair.isTuple_tuple pl (fun _ _ e=>e) ⟨.bl true,H,I,rfl,q⟩
  ·obtain ⟨o,e,c⟩:=vZ I hx; exact IsiPair.dict_tuple e c ⟨.bl false,H,I.tok _,rfl,q⟩
 | _=>exact hk.elim
theorem uJ:gQ X (.builtin "isinstance") (fun xs H Q=>∃ x k,xs = [x,.ty "list"]/\KdV X.K H x k/\Q (.bl (decide (k=.lst))) H):=by
 intro pins s σ H xs us Q I r h
 obtain ⟨x,k,rfl,hk,q⟩:=h
 obtain ⟨u,t,rfl,rx,rt⟩:=mE r
 cases rt
 cases x with
 | int i=>cases hk; obtain ⟨t,rfl⟩:=rx; exact IsiPair.int_list ⟨.bl false,H,I.tok _,rfl,q⟩
 | bl b=>cases hk; cases rx; exact IsiPair.bool_list ⟨.bl false,H,I.tok _,rfl,q⟩
 | non=>cases hk; cases rx; exact IsiPair.NoneType_list ⟨.bl false,H,I.tok _,rfl,q⟩
 | str y=>cases hk; obtain ⟨t,rfl⟩:=rx; exact IsiPair.str_list ⟨.bl false,H,I.tok _,rfl,q⟩
 | ref p =>
  cases rx
  rcases hk with ⟨rfl,xs,hx⟩ | ⟨rfl,xs,hx⟩ | ⟨rfl,kvs,hx⟩
  ·obtain ⟨its,r',pl,hz⟩:=I.list hx; exact IsiPair.isList_list pl.isList (fun _ _ e=>e) ⟨.bl true,H,I,rfl,q⟩
  ·obtain ⟨its,r',pl,hz⟩:=I.tuple hx; exact IsiPair.isTuple_list pl (fun _ _ e=>e) ⟨.bl false,H,I.tok _,rfl,q⟩
  ·obtain ⟨o,e,c⟩:=vZ I hx; exact IsiPair.dict_list e c ⟨.bl false,H,I.tok _,rfl,q⟩
 | _=>exact hk.elim
theorem aBH (bs:List Bool) (tr:Nat->Bool) (h:∀ i b,bs[i]?=some b->tr i=b):(List.range bs.length).all tr=bs.all id:=by
 rw [Xf,Qy,Qy]
 constructor
 ·intro q b hb
  obtain ⟨i,hi⟩:=Wj hb
  have:=q i (Js.mpr (Qd.mp hi).1)
  rw [h i b hi] at this
  exact this
 ·intro q i hi
  have hi':=Js.mp hi
  have e:bs[i]?=some bs[i]:=Qc hi'
  rw [h i _ e]
  exact q _ (Zj hi')
theorem kM (hc:X.calm=true):gQ X (.builtin "all") (fun xs H Q=>∃ (p:Addr) (bs:List Bool),xs = [.ref p]/\SqL X.K H p (bs.map V.bl)/\Q (.bl (bs.all id)) H):=by
 intro pins s σ H xs us Q I r h
 obtain ⟨p,bs,rfl,hx,q⟩:=h
 obtain ⟨u,rfl,rx⟩:=kJ r
 cases rx
 obtain ⟨its,rv,pl,hz⟩:=I.list hx
 have hl:=rv.length
 rw [Qb] at hl
 have hlt:p < s.heap.objs.size:=by obtain ⟨o,n,e,_⟩:=pl; exact Qo e
 refine call_all_walk (wpAny_pyIter_list pl.isList ?_)
 refine ⟨s.heap.objs.size,_,_,_,_,_,fun i=>(bs[i]?).getD false,rfl,Walks.list (A:=X.A.in1) (I.ok.hd hc) s.heap.objs.size p (Jp hlt) its.toArray,⟨⟨_,Qm _ rfl,rfl,rfl⟩,pl.isList.push _⟩,?_,fun h' tk hk=>?_⟩
 ·intro i v s' Q' E' hP hQ'
  have hP':its[i]?=some v:=by simpa using hP
  have hi:i < bs.length:=by rw [hl]; exact (Qd.mp hP').1
  obtain ⟨w,hw,rw'⟩:=rv.get (i:=i) (x:=.bl bs[i]) (by rw [Qh,Qc hi]; rfl)
  rw [hw] at hP'
  cases hP'
  cases rw'
  have e:(bs[i]?).getD false=bs[i]:=by rw [Qc hi]; rfl
  rw [<- e]
  exact wpAny_truthy_bool hQ'
 ·have e:(List.range its.toArray.size).all (fun i=>(bs[i]?).getD false)=bs.all id:=by
   rw [Qk,<- hl]
   exact aBH bs _ fun i b hb=>by rw [hb]; rfl
  rw [e]
  refine ⟨.bl _,H,I.kept (h':=h') fun b o e=>hk b o ?_ (Qa _ e),rfl,q⟩
  intro z
  have z':b=s.heap.objs.size:=by simpa using z
  exact Qv _ (z' ▸ Qo e)
def aO (ns:List Int):Int:=ns.foldr (· + ·) 0
theorem mG (ns:List Int) (val:Nat->Int) (h:∀ (i:Nat) (v:Int),ns[i]?=some v->val i=v):∀ j,j<=ns.length->preSum val j=aO (ns.take j)
 | 0,_=>rfl
 | j+1,hj=>by
  have ih:=mG ns val h j (by omega)
  have e:ns[j]?=some ns[j]:=Qc (by omega)
  show preSum val j+val j=_
  rw [ih,h j _ e,Wl,e]
  unfold aO
  rw [List.foldr_append]
  simp only [Option.toList_some,List.foldr_cons,List.foldr_nil,Int.add_zero]
  generalize ns[j]=v
  induction (List.take j ns) with
  | nil=>simp
  | cons a l ih2=>simp only [List.foldr_cons]; omega
theorem aCC (hc:X.calm=true):gQ X (.builtin "sum") (fun xs H Q=>∃ (p:Addr) (ns:List Int),xs = [.ref p]/\SqL X.K H p (ns.map V.int)/\(∀ n∈ns,0<=n/\n < 1000000)/\ns.length<=1000000/\Q (.int (aO ns)) H):=by
 intro pins s σ H xs us Q I r h
 obtain ⟨p,ns,rfl,hx,hb,hlen,q⟩:=h
 obtain ⟨u,rfl,rx⟩:=kJ r
 cases rx
 obtain ⟨its,rv,pl,hz⟩:=I.list hx
 have hl:=rv.length
 rw [Qb] at hl
 have hlt:p < s.heap.objs.size:=by obtain ⟨o,n,e,_⟩:=pl; exact Qo e
 have hval:∀ (i:Nat) (v:Int),ns[i]?=some v->(ns[i]?).getD 0=v:=fun i v e=>by rw [e]; rfl
 have bnd:∀ (ms:List Int),(∀ n∈ms,0<=n/\n < 1000000)->0<=aO ms/\aO ms<=ms.length*1000000:=fun ms=>by
  induction ms with
  | nil=>intro _; exact ⟨Xb _,Xb _⟩
  | cons a l ih =>
   intro hh
   have h1:=hh a Qn
   have h2:=ih fun n hn=>hh n (Qs _ hn)
   have e:aO (a::l)=a+aO l:=rfl
   rw [e,Jn]
   rw [Wh]
   omega
 refine call_sum_walk (wpAny_pyIter_list pl.isList ?_)
 refine ⟨s.heap.objs.size,_,_,_,_,_,fun i=>(ns[i]?).getD 0,rfl,Walks.list (A:=X.A.in1) (I.ok.hd hc) s.heap.objs.size p (Jp hlt) its.toArray,⟨⟨_,Qm _ rfl,rfl,rfl⟩,pl.isList.push _⟩,?_,?_,?_,fun h' tk t' hk=>?_⟩
 ·intro b hb'
  rw [Jl]
  rcases Qj.mp hb' with e | e
  ·rw [e]; exact Nat.lt_succ_self _
  ·have e':b=p:=by simpa using e
   rw [e']; exact Nat.lt_succ_of_lt hlt
 ·intro i v hP
  have hP':its[i]?=some v:=by simpa using hP
  have hi:i < ns.length:=by rw [hl]; exact (Qd.mp hP').1
  obtain ⟨w,hw,rw'⟩:=rv.get (i:=i) (x:=.int ns[i]) (by rw [Qh,Qc hi]; rfl)
  rw [hw] at hP'
  cases hP'
  obtain ⟨t,rfl⟩:=rw'
  exact ⟨t,by show Value.int ns[i] t=Value.int ((ns[i]?).getD 0) t; rw [Qc hi]; rfl⟩
 ·intro j hj
  have hj':j < ns.length:=by rw [hl]; simpa using hj
  have e:ns[j]?=some ns[j]:=Qc hj'
  have h1:=hb _ (Zj hj')
  have h2:=bnd (ns.take (j+1)) fun n hn=>hb n (Ym hn)
  rw [mG ns _ hval (j+1) (by omega)]
  have h3:(ns.take (j+1)).length<=1000000:=by rw [Ja]; omega
  unfold InLong
  have e5:(fun i:Nat=>(ns[i]?).getD 0) j=ns[j]:=by show (ns[j]?).getD 0=_; rw [e]; rfl
  rw [e5]
  have h4:((ns.take (j+1)).length:Int)*1000000<=1000000*1000000:=by omega
  omega
 ·have e:preSum (fun i=>(ns[i]?).getD 0) its.toArray.size=aO ns:=by
   rw [Qk,<- hl,mG ns _ hval ns.length (Qg _),Jh]
  rw [e]
  refine ⟨.int _,H,I.kept (h':=h') fun b o e=>hk b o ?_ (Qa _ e),⟨_,rfl⟩,q⟩
  intro z
  have z':b=s.heap.objs.size:=by simpa using z
  exact Qv _ (z' ▸ Qo e)
mutual
def Den (K:PySem.W.Frag) (H:Hp):PyData->V->Prop
 | .none,v=>v=.non
 | .bool b,v=>v=.bl b
 | .int i,v=>v=.int i
 | .str x,v=>v=.str x
 | .list ds,v=>∃ a xs,v=.ref a/\SqL K H a xs/\aN K H ds xs
 | .tuple ds,v=>∃ a xs,v=.ref a/\SqT K H a xs/\aN K H ds xs
 | .dict kvs,v=>kvs = []/\∃ a,v=.ref a/\H a=some (.dK [])
def aN (K:PySem.W.Frag) (H:Hp):List PyData->List V->Prop
 | [],xs=>xs = []
 | d::ds,xs=>∃ x r,xs=x::r/\Den K H d x/\aN K H ds r
end
theorem aD.rd {u:HO} (e:aD H H') (h:Rd H a u):Rd H' a u:=by
 rcases h with h | ⟨o,h⟩
 ·exact .inl (e a u h)
 ·exact .inr ⟨o,e a _ h⟩
theorem aD.seqL (e:aD H H') (h:SqL K H a xs):SqL K H' a xs:=by
 rcases h with h | h
 ·exact .inl (e.rd h)
 ·exact .inr h
theorem aD.seqT (e:aD H H') (h:SqT K H a xs):SqT K H' a xs:=by
 rcases h with h | h
 ·exact .inl (e.rd h)
 ·exact .inr h
theorem aD.new {o:HO} (h:H p=none):aD H (upd H p o):=fun b u e=>by rw [aK (iL e h)]; exact e
mutual
theorem aD.den (e:aD H H'):∀ (d:PyData) (v:V),Den K H d v->Den K H' d v
 | .none,v,h=>by unfold Den at h ⊢; exact h
 | .bool b,v,h=>by unfold Den at h ⊢; exact h
 | .int i,v,h=>by unfold Den at h ⊢; exact h
 | .str x,v,h=>by unfold Den at h ⊢; exact h
 | .list ds,v,h=>by unfold Den at h ⊢; obtain ⟨a,xs,h1,h2,h3⟩:=h; exact ⟨a,xs,h1,e.seqL h2,aD.denAll e ds xs h3⟩
 | .tuple ds,v,h=>by unfold Den at h ⊢; obtain ⟨a,xs,h1,h2,h3⟩:=h; exact ⟨a,xs,h1,e.seqT h2,aD.denAll e ds xs h3⟩
 | .dict kvs,v,h=>by unfold Den at h ⊢; obtain ⟨h1,a,h2,h3⟩:=h; exact ⟨h1,a,h2,e a _ h3⟩
theorem aD.denAll (e:aD H H'):∀ (ds:List PyData) (xs:List V),aN K H ds xs->aN K H' ds xs
 | [],xs,h=>by unfold aN at h ⊢; exact h
 | d::ds,xs,h=>by unfold aN at h ⊢; obtain ⟨x,r,h1,h2,h3⟩:=h; exact ⟨x,r,h1,aD.den e d x h2,aD.denAll e ds r h3⟩
end
theorem bP {i:Int}:Den K H (.int i) v↔v=.int i:=by unfold Den; exact Iff.rfl
theorem jP {b:Bool}:Den K H (.bool b) v↔v=.bl b:=by unfold Den; exact Iff.rfl
theorem sH:Den K H .none v↔v=.non:=by unfold Den; exact Iff.rfl
theorem wA:Den K H (.str x) v↔v=.str x:=by unfold Den; exact Iff.rfl
theorem eF:Den K H (.list ds) v↔∃ a xs,v=.ref a/\SqL K H a xs/\aN K H ds xs:=by
 constructor
 ·intro h; unfold Den at h; exact h
 ·intro h; unfold Den; exact h
theorem bB:Den K H (.tuple ds) v↔∃ a xs,v=.ref a/\SqT K H a xs/\aN K H ds xs:=by
 constructor
 ·intro h; unfold Den at h; exact h
 ·intro h; unfold Den; exact h
theorem aCD {kvs:List (PyData×PyData)}:Den K H (.dict kvs) v↔kvs = []/\∃ a,v=.ref a/\H a=some (.dK []):=by
 constructor
 ·intro h; unfold Den at h; exact h
 ·intro h; unfold Den; exact h
theorem aL:aN K H [] xs↔xs = []:=by unfold aN; exact Iff.rfl
theorem aH {d:PyData}:aN K H (d::ds) xs↔∃ x r,xs=x::r/\Den K H d x/\aN K H ds r:=by
 constructor
 ·intro h; unfold aN at h; exact h
 ·intro h; unfold aN; exact h
theorem aF:∀ {ds:List PyData} {xs:List V},aN K H ds xs->xs.length=ds.length
 | [],xs,h=>by rw [aL.mp h]; rfl
 | d::ds,xs,h=>by
  obtain ⟨x,r,rfl,_,h3⟩:=aH.mp h
  rw [Jn,Jn,aF h3]
theorem sI:∀ {ds:List PyData} {xs:List V} {i:Nat} {d:PyData},aN K H ds xs->ds[i]?=some d->∃ x,xs[i]?=some x/\Den K H d x
 | [],_,_,_,_,e=>by simp at e
 | d::ds,xs,0,d',h,e=>by
  obtain ⟨x,r,rfl,h2,_⟩:=aH.mp h
  simp at e; subst e
  exact ⟨x,rfl,h2⟩
 | d::ds,xs,i+1,d',h,e=>by
  obtain ⟨x,r,rfl,_,h3⟩:=aH.mp h
  obtain ⟨y,h4,h5⟩:=sI (i:=i) (d:=d') h3 (by simpa using e)
  exact ⟨y,by simpa using h4,h5⟩
theorem nB {i:Nat} {x:V} (h:aN K H ds xs) (e:xs[i]?=some x):∃ d,ds[i]?=some d/\Den K H d x:=by
 have hl:=aF h
 have hi:i < ds.length:=by rw [<- hl]; exact (Qd.mp e).1
 obtain ⟨y,h1,h2⟩:=sI h (Qc hi)
 rw [e] at h1; cases h1
 exact ⟨_,Qc hi,h2⟩
theorem aZ:∀ {ds es:List PyData} {xs ys:List V},aN K H ds xs->aN K H es ys->aN K H (ds++es) (xs++ys)
 | [],es,xs,ys,h,h'=>by rw [aL.mp h]; exact h'
 | d::ds,es,xs,ys,h,h'=>by
  obtain ⟨x,r,rfl,h2,h3⟩:=aH.mp h
  exact aH.mpr ⟨x,r++ys,rfl,h2,aZ h3 h'⟩
theorem qU:∀ {ds:List PyData} {xs:List V} (n:Nat),aN K H ds xs->aN K H (ds.take n) (xs.take n)
 | _,_,0,_=>by rw [Yu,Yu]; exact aL.mpr rfl
 | [],xs,n+1,h=>by rw [aL.mp h]; exact aL.mpr rfl
 | d::ds,xs,n+1,h=>by
  obtain ⟨x,r,rfl,h2,h3⟩:=aH.mp h
  exact aH.mpr ⟨x,r.take n,rfl,h2,qU n h3⟩
theorem qV:∀ {ds:List PyData} {xs:List V} (n:Nat),aN K H ds xs->aN K H (ds.drop n) (xs.drop n)
 | _,_,0,h=>h
 | [],xs,n+1,h=>by rw [aL.mp h]; exact aL.mpr rfl
 | d::ds,xs,n+1,h=>by
  obtain ⟨x,r,rfl,h2,h3⟩:=aH.mp h
  exact qV n h3
theorem eU:∀ {ns:List Int} {xs:List V},aN K H (ns.map PyData.int) xs↔xs=ns.map V.int
 | [],xs=>aL
 | n::ns,xs=>by
  rw [Jk,aH]
  constructor
  ·rintro ⟨x,r,rfl,h2,h3⟩
   rw [bP.mp h2,eU.mp h3]
   rfl
  ·intro e
   exact ⟨_,_,e,bP.mpr rfl,eU.mpr rfl⟩
theorem bV:Den K H (.tuple (ns.map .int)) v↔∃ a,v=.ref a/\SqT K H a (ns.map V.int):=by
 rw [bB]
 constructor
 ·rintro ⟨a,xs,rfl,h1,h2⟩
  rw [eU.mp h2] at h1
  exact ⟨a,rfl,h1⟩
 ·rintro ⟨a,rfl,h⟩
  exact ⟨a,_,rfl,h,eU.mpr rfl⟩
theorem vD:Den K H (.list (ns.map .int)) v↔∃ a,v=.ref a/\SqL K H a (ns.map V.int):=by
 rw [eF]
 constructor
 ·rintro ⟨a,xs,rfl,h1,h2⟩
  rw [eU.mp h2] at h1
  exact ⟨a,rfl,h1⟩
 ·rintro ⟨a,rfl,h⟩
  exact ⟨a,_,rfl,h,eU.mpr rfl⟩
def iA:PyData->Kd
 | .none=>.non | .bool _=>.bl | .int _=>.int | .str _=>.str | .list _=>.lst | .tuple _=>.tup | .dict _=>.dct
theorem Den.kd {d:PyData} (h:Den K H d v):KdV K H v (iA d):=by
 cases d with
 | none=>rw [sH.mp h]; rfl
 | bool b=>rw [jP.mp h]; rfl
 | int i=>rw [bP.mp h]; rfl
 | str x=>rw [wA.mp h]; rfl
 | list ds=>obtain ⟨a,xs,rfl,h1,_⟩:=eF.mp h; exact .inl ⟨rfl,xs,h1⟩
 | tuple ds=>obtain ⟨a,xs,rfl,h1,_⟩:=bB.mp h; exact .inr (.inl ⟨rfl,xs,h1⟩)
 | dict kvs=>obtain ⟨_,a,rfl,h1⟩:=aCD.mp h; exact .inr (.inr ⟨rfl,[],h1⟩)
section
variable {σ:St}
mutual
def dZ:PyData->Bool
 | .dict _=>false
 | .list ds=>iR ds
 | .tuple ds=>iR ds
 | _=>true
def iR:List PyData->Bool
 | []=>true
 | d::ds=>dZ d && iR ds
end
mutual
theorem Den.reads (I:Inv X pins σ H s):∀ (d:PyData) (v:V) (u:Value),dZ d=true->Den X.K H d v->bI v u->∃ as,Reads s.heap u d as
 | .none,v,u,_,h,r=>by rw [sH.mp h] at r; cases r; exact ⟨_,.none⟩
 | .bool b,v,u,_,h,r=>by rw [jP.mp h] at r; cases r; exact ⟨_,.bool b⟩
 | .int i,v,u,_,h,r=>by rw [bP.mp h] at r; obtain ⟨t,rfl⟩:=r; exact ⟨_,.int i t⟩
 | .str x,v,u,_,h,r=>by rw [wA.mp h] at r; obtain ⟨t,rfl⟩:=r; exact ⟨_,.str x t⟩
 | .list ds,v,u,hn,h,r=>by
  obtain ⟨a,xs,rfl,h1,h2⟩:=eF.mp h
  cases r
  obtain ⟨its,rv,⟨o,n,e,c,_,d⟩,_⟩:=I.list h1
  obtain ⟨as,ra⟩:=aN.reads I ds xs its (by unfold dZ at hn; exact hn) h2 rv
  exact ⟨_,.list e c d (by simpa using ra)⟩
 | .tuple ds,v,u,hn,h,r=>by
  obtain ⟨a,xs,rfl,h1,h2⟩:=bB.mp h
  cases r
  obtain ⟨its,rv,⟨o,e,c,n,d⟩,_⟩:=I.tuple h1
  obtain ⟨as,ra⟩:=aN.reads I ds xs its (by unfold dZ at hn; exact hn) h2 rv
  exact ⟨_,.tuple e c d (by simpa using ra)⟩
 | .dict kvs,v,u,hn,_,_=>by unfold dZ at hn; cases hn
theorem aN.reads (I:Inv X pins σ H s):∀ (ds:List PyData) (xs:List V) (us:List Value),iR ds=true->aN X.K H ds xs->bJ xs us->∃ as,ReadsAll s.heap us ds as
 | [],xs,us,_,h,r=>by rw [aL.mp h] at r; cases r; exact ⟨_,.nil⟩
 | d::ds,xs,us,hn,h,r=>by
  obtain ⟨x,rr,rfl,h2,h3⟩:=aH.mp h
  unfold iR at hn
  rw [Jb] at hn
  cases r with
  | cons r1 r2 =>
   obtain ⟨as,ra⟩:=Den.reads I d x _ hn.1 h2 r1
   obtain ⟨bs,rb⟩:=aN.reads I ds rr _ hn.2 h3 r2
   exact ⟨_,.cons ra rb⟩
end
theorem aCE (hu:X.A.units+64 < cLine):OpR X (compareOp .Eq) (fun x y H Q=>∃ d e,Den X.K H d x/\Den X.K H e y/\dZ d=true/\dZ e=true/\SeqAt.shaped d=true/\SeqAt.shaped e=true/\Q (.bl (PyData.eqv d e)) H):=by
 intro pins s σ H x y v u Q I rx ry h
 obtain ⟨d,e,hd,he,n1,n2,s1,s2,q⟩:=h
 obtain ⟨as,ra⟩:=Den.reads I d x v n1 hd rx
 obtain ⟨bs,rb⟩:=Den.reads I e y u n2 he ry
 exact eq_dataH ra rb s1 s2 hu ⟨.bl _,H,I,rfl,q⟩
theorem sJ (hu:X.A.units+64 < cLine):OpR X (compareOp .NotEq) (fun x y H Q=>∃ d e,Den X.K H d x/\Den X.K H e y/\dZ d=true/\dZ e=true/\SeqAt.shaped d=true/\SeqAt.shaped e=true/\Q (.bl (!PyData.eqv d e)) H):=by
 intro pins s σ H x y v u Q I rx ry h
 obtain ⟨d,e,hd,he,n1,n2,s1,s2,q⟩:=h
 obtain ⟨as,ra⟩:=Den.reads I d x v n1 hd rx
 obtain ⟨bs,rb⟩:=Den.reads I e y u n2 he ry
 exact ne_dataH ra rb s1 s2 hu ⟨.bl _,H,I,rfl,q⟩
end
theorem yC:gQ X (.type "range") (fun xs H Q=>∃ j,xs = [.int j]/\∀ p,H p=none->Q (.ref p) (upd H p (.rng 0 j))):=by
 intro pins s σ H xs us Q I r h
 obtain ⟨j,rfl,q⟩:=h
 obtain ⟨u,rfl,t,rfl⟩:=kJ r
 refine call_range_1 ⟨.ref s.heap.objs.size,_,I.laid (fun b o e=>Qa _ e) (Qg _) ?_,rfl,q _ (I.hok.fresh (Qg _))⟩
 exact ⟨_,_,_,Qm _ rfl⟩
def bN (n:Nat):List Int:=(List.range n).map fun (i:Nat)=>(i:Int)
def tab (L:Bool) (ns:List Nat):SetTable:={ mask:=7,place:=ns.toArray,dummies:=#[],finger:=0,led:=L,moves:=0,plain:=true }
def aHq (l:List (Nat×Tok)):Array (Int×Value):=(l.map fun p=>((p.1:Int),Value.int (p.1:Int) p.2)).toArray
theorem pt2:∀ (L:Bool) (k j:Fin 8),j < k->(tab L [k.val]).put j.val=(tab L [j.val,k.val],0):=by decide +kernel
def SX (L:Bool) (h:Heap) (a:Addr) (l:List (Nat×Tok)):Prop:=∃ o ep,h.get? a=some o/\o.ExactSet/\o.data=.set (aHq l) ep (tab L (l.map (·.1)))
abbrev Led (w:World):Bool:=!(w.params.followText "set-order")
def two (a b:Nat) (t u:Tok):List (Nat×Tok):=if a=b then [(a,t)] else if a < b then [(a,t),(b,u)] else [(b,u),(a,t)]
theorem SX.keep {l:List (Nat×Tok)} (x:SX L h a l) (k:∀ o,h.get? a=some o->h'.get? a=some o):SX L h' a l:=by
 obtain ⟨o,ep,e,r⟩:=x
 exact ⟨o,ep,k o e,r⟩
section
variable {S:Addr} {l:List (Nat×Tok)}
end
def aHr (w:World) (p:Addr) (a b:Nat):HO:=.ext fun h=>∃ t u,SX (Led w) h p (two a b t u)
structure Sub (prog:Program) (w:World) (i l:Addr) (n:Nat) (P:Nat->Value->Prop) (st:Nat->Heap->Prop):Prop where
 keep:∀ k h h',st k h->(∀ b,b=i∨b=l->∀ o,h.get? b=some o->h'.get? b=some o)->st k h'
 obj:∀ k h,st k h->(∃ o,h.get? i=some o/\∀ v,o.data≠.cell v)/\∃ o,h.get? l=some o
 item:∀ (A:Around) k (s:Shared) (Q:Value->Shared->Prop) (E:Value->Shared->Prop),k < n->st k s.heap->(∀ v h',P k v->st (k+1) h'->Heap.SameBut i s.heap h'->Q v { s with heap:=h' })->wpAny (model prog w) A (Builtin.SmallTypes.nextOf (.ref i)) Q E s
 done:∀ (A:Around) (s:Shared) (Q:Value->Shared->Prop) (E:Value->Shared->Prop),A.handled=none->st n s.heap->(∀ h' e,Heap.ExtBut i s.heap h'->(∃ o,h'.get? e=some o/\o.cls=.type "StopIteration")->E (.ref e) { s with heap:=h' }) ->
  wpAny (model prog w) A (Builtin.SmallTypes.nextOf (.ref i)) Q E s
theorem aCF (prog:Program) (w:World) (i l:Addr) (items:Array Value) (hne:l≠i):Sub prog w i l items.size (fun k v=>items[k]?=some v) (fun k h=>h.IsListIter i l k/\h.IsList l items) where
 keep:=fun k h h' st kp=>⟨st.1.at fun o e=>kp i (.inl rfl) o e,st.2.at fun o e=>kp l (.inr rfl) o e⟩
 obj:=fun k h st=>by
  obtain ⟨⟨o,e,_,d⟩,⟨o2,e2,_⟩⟩:=st
  exact ⟨⟨o,e,fun v z=>by rw [d] at z; cases z⟩,o2,e2⟩
 item:=fun A k s Q E hk st hQ=>wpAny_nextOf_list_item st.1 st.2 (Array.getElem?_eq_getElem hk) fun h' a b=>hQ _ h' (Array.getElem?_eq_getElem hk) ⟨a,st.2.at fun o e=>b.extBut l o hne e⟩ b
 done:=fun A s Q E hh st hE=>wpAny_nextOf_list_end hh st.1 st.2 (Array.getElem?_eq_none (Qg _)) hE
theorem oN {t:Addr} {i:Nat} {x:Value} (hit:s.heap.IsTupleIter it t i) (ht:s.heap.IsTuple t items) (hx:items[i]?=some x) (hQ:∀ h',h'.IsTupleIter it t (i+1)->Heap.SameBut it s.heap h'->Q x { s with heap:=h' }):wpAny (model prog w) A (Builtin.SmallTypes.nextOf (.ref it)) Q E s:=by
 obtain ⟨o,ho,hc,hd⟩:=id hit
 obtain ⟨ol,hol,_,nl,hdl⟩:=ht
 have hT:=hit.typeIs
 unfold Builtin.SmallTypes.nextOf
 refine wpAny_bind (wpAny_callSpecial?_slot (name:=Str.ofString "__next__") hT PySem.F.slot_tuple_iterator_next (wpAny_call_entry PySem.F.slot_tuple_iterator_next hT PySem.F.entry_tuple_iterator_next ?_ (PySem.F.args_tuple_iterator_next_1 _)))
 refine wpAny_bind (m:=field (.ref it) 0) (wpAny_field ho hd (x:=.ref t) rfl ?_)
 have hno:¬ ((Value.ref t==Value.none)=true):=Qx
 show wpAny _ _ (if (Value.ref t==Value.none)=true then _ else _) _ _ s
 rw [if_neg hno]
 refine wpAny_bind (m:=field (.ref it) 1) (wpAny_field ho hd (x:=.int i 0) rfl ?_)
 refine wpAny_bind (m:=seqItems? (.ref t)) (wpAny_seqItems hol hdl ?_)
 simp only [Yf,hx]
 refine wpAny_bind (wpAny_setField ho hd (by simp) (wpAny_pure ⟨x,rfl,wpAny_pure (hQ _ ?_ (Heap.SameBut.update ..))⟩))
 refine ⟨_,Xp _ ho (Obj.isFreed_of_fields (Obj.data_mapFields hd _)),(Obj.cls_mapFields ..).trans hc,?_⟩
 rw [Obj.data_mapFields hd]
 simp [rawInt]
theorem pW {t:Addr} {i:Nat} (hh:A.handled=none) (hit:s.heap.IsTupleIter it t i) (ht:s.heap.IsTuple t items) (hx:items[i]?=none) (hE:∀ h' e,Heap.ExtBut it s.heap h'->(∃ o,h'.get? e=some o/\o.cls=.type "StopIteration")->E (.ref e) { s with heap:=h' }):wpAny (model prog w) A (Builtin.SmallTypes.nextOf (.ref it)) Q E s:=by
 obtain ⟨o,ho,hc,hd⟩:=id hit
 obtain ⟨ol,hol,_,nl,hdl⟩:=ht
 have hT:=hit.typeIs
 unfold Builtin.SmallTypes.nextOf
 refine wpAny_bind (wpAny_callSpecial?_slot (name:=Str.ofString "__next__") hT PySem.F.slot_tuple_iterator_next (wpAny_call_entry PySem.F.slot_tuple_iterator_next hT PySem.F.entry_tuple_iterator_next ?_ (PySem.F.args_tuple_iterator_next_1 _)))
 refine wpAny_bind (m:=field (.ref it) 0) (wpAny_field ho hd (x:=.ref t) rfl ?_)
 have hno:¬ ((Value.ref t==Value.none)=true):=Qx
 show wpAny _ _ (if (Value.ref t==Value.none)=true then _ else _) _ _ s
 rw [if_neg hno]
 refine wpAny_bind (m:=field (.ref it) 1) (wpAny_field ho hd (x:=.int i 0) rfl ?_)
 refine wpAny_bind (m:=seqItems? (.ref t)) (wpAny_seqItems hol hdl ?_)
 simp only [Yf,hx]
 refine wpAny_bind (wpAny_rule (wpAny_bind (wpAny_setField ho hd (by simp) ?_)))
 refine wpAny_bind (m:=newExc (.type "StopIteration") []) ?_
 simp only [newExc,newTuple]
 refine wpAny_bind (wpAny_newObj_type ?_ (by size_fits))
 refine wpAny_bind (m:=firstArgMember _ _) (wpAny_of_eq (a:=Value.none) (by first | rfl | (simp only [firstArgMember]; rfl)) ?_)
 refine wpAny_newObj_type ?_ (by size_fits)
 simp only [raiseNew]
 refine wpAny_bind (wpAny_handled ?_)
 first | rw [show A.in1.handled=none from hh] | rw [hh]
 refine wpAny_bind (wpAny_pure (wpAny_throw ?_))
 exact hE _ _ (((Heap.SameBut.update ..).extBut.push _).push _) ⟨_,Qm _ rfl,rfl⟩
theorem aBI (prog:Program) (w:World) (i l:Addr) (items:Array Value) (hne:l≠i):Sub prog w i l items.size (fun k v=>items[k]?=some v) (fun k h=>h.IsTupleIter i l k/\h.IsTuple l items) where
 keep:=fun k h h' st kp=>⟨st.1.at fun o e=>kp i (.inl rfl) o e,by obtain ⟨o,e,r⟩:=st.2; exact ⟨o,kp l (.inr rfl) o e,r⟩⟩
 obj:=fun k h st=>by
  obtain ⟨⟨o,e,_,d⟩,⟨o2,e2,_⟩⟩:=st
  exact ⟨⟨o,e,fun v z=>by rw [d] at z; cases z⟩,o2,e2⟩
 item:=fun A k s Q E hk st hQ=>oN st.1 st.2 (Array.getElem?_eq_getElem hk) fun h' a b=>hQ _ h' (Array.getElem?_eq_getElem hk) ⟨a,by obtain ⟨o,e,r⟩:=st.2; exact ⟨o,b.extBut l o hne e,r⟩⟩ b
 done:=fun A s Q E hh st hE=>pW hh st.1 st.2 (Array.getElem?_eq_none (Qg _)) hE
section
variable {TI TO:Addr} {n1:Nat}
theorem aD7 {k:Nat} {a b:Value} (D:ZipApart z TI TO i1 i2 l1 l2) (S1:Sub prog w i1 l1 n1 P1 st1) (S2:Sub prog w i2 l2 n2 P2 st2) (hz:IsZip s.heap z TI TO .none) (hTI:IsPair s.heap TI (.ref i1) (.ref i2)) (hTO:IsPair s.heap TO a b) (h1:st1 k s.heap) (h2:st2 k s.heap) (k1:k < n1) (k2:k < n2) (hQ:∀ h' x y,P1 k x->P2 k y->IsZip h' z TI TO (rawInt s.heap.objs.size)->IsPair h' TO x y->st1 (k+1) h'->st2 (k+1) h'->IsPair h' s.heap.objs.size x y ->
   (∀ c o,c≠z->c≠TO->c≠i1->c≠i2->s.heap.get? c=some o->h'.get? c=some o)->Q (.ref s.heap.objs.size) { s with heap:=h' }) :
  wpAny (model prog w) A (Builtin.«zip.__next__» ⟨[.ref z],[]⟩) (fun fin s'=>∃ v,fin=.done (.ret v)/\Q v s') E s:=by
 refine wpAny_bind (m:=field (.ref z) 2) (wpAny_field hz rfl (x:=.bool false) rfl ?_)
 refine wpAny_bind (m:=field (.ref z) 3) (wpAny_field hz rfl (x:=.ref TI) rfl ?_)
 refine wpAny_bind (wpAny_seqItems hTI rfl ?_)
 refine wpAny_bind (m:=Builtin.SmallTypes.ownedTupleIsFree (.ref z)) ?_
 unfold Builtin.SmallTypes.ownedTupleIsFree
 refine wpAny_bind (wpAny_field hz rfl (x:=.none) rfl (wpAny_pure ?_))
 simp only [if_true]
 refine wpAny_bind (wpAny_rule ?_)
 refine wpAny_bind (wpAny_field hz rfl (x:=.ref TO) rfl ?_)
 refine wpAny_bind (wpAny_setField_rec hz (by simp) fun g1 hz1 b1=>?_)
 have hz1':IsZip g1 z TI TO .ellipsis:=hz1
 refine wpAny_bind ?_
 simp only [Zk,Zn,Xn,Xq]
 -- the first one
 have s1:st1 k g1:=S1.keep _ _ _ h1 fun c hc o e=>b1.extBut c o (by rcases hc with r | r <;> rw [r]; exact D.i1z; exact D.l1z) e
 refine wpAny_bind (wpAny_bind (wpAny_onRaise ?_))
 refine wpAny_bind (m:=Builtin.SmallTypes.nextOf (.ref i1)) (S1.item _ k _ _ _ k1 s1 fun x g2 px t1 b2=>wpAny_pure ?_)
 have o2:IsPair g2 TO a b:=b2.extBut _ _ D.TOi1 (b1.extBut _ _ D.TOz hTO)
 refine wpAny_bind (wpAny_seqItems o2 rfl ?_)
 refine wpAny_bind (wpAny_updateSeq_pair o2 fun g3 o3 b3=>?_)
 have o3':IsPair g3 TO x b:=o3
 refine wpAny_bind (wpAny_letGo (wpAny_pure ?_))
 -- the second one
 have s2:st2 k g3:=S2.keep _ _ _ h2 fun c hc o e=>by
  rcases hc with r | r
  ·rw [r] at e ⊢; exact b3.extBut _ _ D.TOi2.symm (b2.extBut _ _ D.i12.symm (b1.extBut _ _ D.i2z e))
  ·rw [r] at e ⊢; exact b3.extBut _ _ D.l2TO (b2.extBut _ _ D.l2i1 (b1.extBut _ _ D.l2z e))
 refine wpAny_bind (wpAny_bind (wpAny_onRaise ?_))
 refine wpAny_bind (m:=Builtin.SmallTypes.nextOf (.ref i2)) (S2.item _ k _ _ _ k2 s2 fun y g4 py t2 b4=>wpAny_pure ?_)
 have o4:IsPair g4 TO x b:=b4.extBut _ _ D.TOi2 o3'
 refine wpAny_bind (wpAny_seqItems o4 rfl ?_)
 refine wpAny_bind (wpAny_updateSeq_pair o4 fun g5 o5 b5=>?_)
 have o5':IsPair g5 TO x y:=o5
 refine wpAny_bind (wpAny_letGo (wpAny_pure (wpAny_pure ?_)))
 refine wpAny_bind (wpAny_seqItems o5' rfl ?_)
 refine wpAny_bind (wpAny_newTuple ?_)
 have sz:g5.objs.size=s.heap.objs.size:=by rw [b5.1,b4.1,b3.1,b2.1,b1.1]
 have z5:IsZip g5 z TI TO .ellipsis:=b5.extBut _ _ D.TOz.symm (b4.extBut _ _ D.i2z.symm (b3.extBut _ _ D.TOz.symm (b2.extBut _ _ D.i1z.symm hz1')))
 have kp5:∀ c o,c≠z->c≠TO->c≠i1->c≠i2->s.heap.get? c=some o->g5.get? c=some o:=fun c o c1 c2 c3 c4 e =>
  b5.extBut _ _ c2 (b4.extBut _ _ c4 (b3.extBut _ _ c2 (b2.extBut _ _ c3 (b1.extBut _ _ c1 e))))
 have t1':st1 (k+1) g5:=S1.keep _ _ _ t1 fun c hc o e=>by
  rcases hc with r | r
  ·rw [r] at e ⊢; exact b5.extBut _ _ D.TOi1.symm (b4.extBut _ _ D.i12 (b3.extBut _ _ D.TOi1.symm e))
  ·rw [r] at e ⊢; exact b5.extBut _ _ D.l1TO (b4.extBut _ _ D.l1i2 (b3.extBut _ _ D.l1TO e))
 have t2':st2 (k+1) g5:=S2.keep _ _ _ t2 fun c hc o e=>by
  rcases hc with r | r
  ·rw [r] at e ⊢; exact b5.extBut _ _ D.TOi2.symm e
  ·rw [r] at e ⊢; exact b5.extBut _ _ D.l2TO e
 have zlt:g5.objs.size≠z:=Zy (Qo z5)
 refine wpAny_bind (m:=Builtin.SmallTypes.ownedTupleHandOut (.ref z) (.ref g5.objs.size)) ?_
 unfold Builtin.SmallTypes.ownedTupleHandOut
 have z6:IsZip (g5.push { cls:=.type "tuple",data:=.seq #[x,y] }) z TI TO .ellipsis:=Qa _ z5
 refine wpAny_bind (wpAny_setField_rec z6 (by simp) fun g7 z7 b7=>?_)
 have z7':IsZip g7 z TI TO (rawInt g5.objs.size):=z7
 refine wpAny_setField_rec z7' (by simp) fun g8 z8 b8=>?_
 have z8':IsZip g8 z TI TO (rawInt g5.objs.size):=z8
 have up:∀ c o,c≠z->g5.get? c=some o->g8.get? c=some o:=fun c o c1 e=>b8.extBut _ _ c1 (b7.extBut _ _ c1 (Qa _ e))
 have T8:IsPair g8 g5.objs.size x y:=b8.extBut _ _ zlt (b7.extBut _ _ zlt (Qm _ rfl))
 rw [sz] at z8' T8
 refine wpAny_pure ⟨_,rfl,?_⟩
 show Q (.ref g5.objs.size) _
 rw [sz]
 refine hQ g8 x y px py z8' (up _ _ D.TOz o5') (S1.keep _ _ _ t1' fun c hc o e=>up c o (by rcases hc with r | r <;> rw [r]; exact D.i1z; exact D.l1z) e) (S2.keep _ _ _ t2' fun c hc o e=>up c o (by rcases hc with r | r <;> rw [r]; exact D.i2z; exact D.l2z) e) T8 fun c o c1 c2 c3 c4 e=>up c o c1 (kp5 c o c1 c2 c3 c4 e)
theorem aFP {k:Nat} {a b:Value} {Q:Fin->Shared->Prop} (hh:A.handled=none) (D:ZipApart z TI TO i1 i2 l1 l2) (S1:Sub prog w i1 l1 n1 P1 st1) (S2:Sub prog w i2 l2 n2 P2 st2)
  (hz:IsZip s.heap z TI TO .none) (hTI:IsPair s.heap TI (.ref i1) (.ref i2)) (hTO:IsPair s.heap TO a b) (h1:st1 k s.heap) (h2:st2 k s.heap) (hend:k=n1/\k<=n2∨k=n2/\k < n1)
  (hE:∀ h' e,(∀ c o,c≠z->c≠TO->c≠i1->c≠i2->s.heap.get? c=some o->h'.get? c=some o)->(∃ o,h'.get? e=some o/\o.cls=.type "StopIteration")->E (.ref e) { s with heap:=h' }) :
  wpAny (model prog w) A (Builtin.«zip.__next__» ⟨[.ref z],[]⟩) Q E s:=by
 refine wpAny_bind (m:=field (.ref z) 2) (wpAny_field hz rfl (x:=.bool false) rfl ?_)
 refine wpAny_bind (m:=field (.ref z) 3) (wpAny_field hz rfl (x:=.ref TI) rfl ?_)
 refine wpAny_bind (wpAny_seqItems hTI rfl ?_)
 refine wpAny_bind (m:=Builtin.SmallTypes.ownedTupleIsFree (.ref z)) ?_
 unfold Builtin.SmallTypes.ownedTupleIsFree
 refine wpAny_bind (wpAny_field hz rfl (x:=.none) rfl (wpAny_pure ?_))
 simp only [if_true]
 refine wpAny_bind (wpAny_rule ?_)
 refine wpAny_bind (wpAny_field hz rfl (x:=.ref TO) rfl ?_)
 refine wpAny_bind (wpAny_setField_rec hz (by simp) fun g1 hz1 b1=>?_)
 have hz1':IsZip g1 z TI TO .ellipsis:=hz1
 refine wpAny_bind ?_
 simp only [Zk,Zn,Xn,Xq]
 have s1:st1 k g1:=S1.keep _ _ _ h1 fun c hc o e=>b1.extBut c o (by rcases hc with r | r <;> rw [r]; exact D.i1z; exact D.l1z) e
 refine wpAny_bind (wpAny_bind (wpAny_onRaise ?_))
 have fin:∀ (g:Heap) (e:Addr) (g0:Heap),(∃ o,g.get? e=some o/\o.cls=.type "StopIteration")->IsZip g z TI TO .ellipsis->(∀ c o,c≠z->c≠TO->c≠i1->c≠i2->s.heap.get? c=some o->g.get? c=some o) ->
   wpAny (model prog w) A (setField (.ref z) 0 .none) (fun _ s'=>E (.ref e) s') E { s with heap:=g }:=fun g e g0 ⟨oe,hoe,hce⟩ hzz kp=>by
  have hez:e≠z:=fun q=>by rw [q,hzz] at hoe; cases hoe; simp at hce
  exact wpAny_setField_rec hzz (by simp) fun g' _ b'=>hE g' e (fun c o c1 c2 c3 c4 q=>b'.extBut _ _ c1 (kp c o c1 c2 c3 c4 q)) ⟨oe,b'.extBut _ _ hez hoe,hce⟩
 rcases hend with ⟨e1,_⟩ | ⟨e2,k1⟩
 ·rw [e1] at s1
  refine wpAny_bind (m:=Builtin.SmallTypes.nextOf (.ref i1)) (S1.done _ _ _ _ hh s1 fun g2 e b2 he=>?_)
  exact fin g2 e g1 he (b2 _ _ D.i1z.symm hz1') fun c o c1 _ c3 _ q=>b2 _ _ c3 (b1.extBut _ _ c1 q)
 ·refine wpAny_bind (m:=Builtin.SmallTypes.nextOf (.ref i1)) (S1.item _ k _ _ _ k1 s1 fun x g2 px t1 b2=>wpAny_pure ?_)
  have o2:IsPair g2 TO a b:=b2.extBut _ _ D.TOi1 (b1.extBut _ _ D.TOz hTO)
  refine wpAny_bind (wpAny_seqItems o2 rfl ?_)
  refine wpAny_bind (wpAny_updateSeq_pair o2 fun g3 o3 b3=>?_)
  refine wpAny_bind (wpAny_letGo (wpAny_pure ?_))
  have s2:st2 n2 g3:=by
   rw [<- e2]
   exact S2.keep _ _ _ h2 fun c hc o e=>by
    rcases hc with r | r
    ·rw [r] at e ⊢; exact b3.extBut _ _ D.TOi2.symm (b2.extBut _ _ D.i12.symm (b1.extBut _ _ D.i2z e))
    ·rw [r] at e ⊢; exact b3.extBut _ _ D.l2TO (b2.extBut _ _ D.l2i1 (b1.extBut _ _ D.l2z e))
  refine wpAny_bind (wpAny_bind (wpAny_onRaise ?_))
  refine wpAny_bind (m:=Builtin.SmallTypes.nextOf (.ref i2)) (S2.done _ _ _ _ hh s2 fun g4 e b4 he=>?_)
  exact fin g4 e g3 he (b4 _ _ D.i2z.symm (b3.extBut _ _ D.TOz.symm (b2.extBut _ _ D.i1z.symm hz1'))) fun c o c1 c2 c3 c4 q=>b4 _ _ c4 (b3.extBut _ _ c2 (b2.extBut _ _ c3 (b1.extBut _ _ c1 q)))
end
inductive Sk where
 | l | t
end L2
variable {k1 k2 k3:Sk}
namespace L2
open PySem PySem.Spec PyProof.Rows
def SqK (k:Sk) (K:PySem.W.Frag) (H:Hp) (a:Addr) (xs:List V):Prop:=match k with | .l=>SqL K H a xs | .t=>SqT K H a xs
def AtK (k:Sk) (h:Heap) (a:Addr) (its:Array Value):Prop:=match k with | .l=>h.IsList a its | .t=>h.IsTuple a its
def ItK (k:Sk) (h:Heap) (i a:Addr) (n:Nat):Prop:=match k with | .l=>h.IsListIter i a n | .t=>h.IsTupleIter i a n
def itK (k:Sk) (a:Addr):Obj:=match k with | .l=>{ cls:=.type "list_iterator",data:=.fields #[.ref a,.int 0 0] } | .t=>{ cls:=.type "tuple_iterator",data:=.fields #[.ref a,.int 0 0] }
theorem ItK.new (k:Sk) (h:Heap) (a:Addr):ItK k (h.push (itK k a)) h.objs.size a 0:=by
 cases k
 ·exact ⟨_,Qm _ rfl,rfl,rfl⟩
 ·exact ⟨_,Qm _ rfl,rfl,rfl⟩
theorem ItK.obj {k:Sk} {i:Addr} (x:ItK k h i a n):∃ o,h.get? i=some o/\∀ v,o.data≠.cell v:=by
 cases k
 ·obtain ⟨o,e,_,d⟩:=x; exact ⟨o,e,fun v z=>by rw [d] at z; cases z⟩
 ·obtain ⟨o,e,_,d⟩:=x; exact ⟨o,e,fun v z=>by rw [d] at z; cases z⟩
theorem ItK.at {k:Sk} {i:Addr} (x:ItK k h i a n) (kp:∀ o,h.get? i=some o->h'.get? i=some o):ItK k h' i a n:=by
 cases k
 ·exact Heap.IsListIter.at x kp
 ·exact Heap.IsTupleIter.at x kp
theorem AtK.at {k:Sk} {its:Array Value} (x:AtK k h a its) (kp:∀ o,h.get? a=some o->h'.get? a=some o):AtK k h' a its:=by
 cases k
 ·exact Heap.IsList.at x kp
 ·obtain ⟨o,e,r⟩:=x; exact ⟨o,kp o e,r⟩
theorem oO (k:Sk) (prog:Program) (w:World) (i l:Addr) (items:Array Value) (hne:l≠i):Sub prog w i l items.size (fun j v=>items[j]?=some v) (fun j h=>ItK k h i l j/\AtK k h l items):=by
 cases k
 ·exact aCF prog w i l items hne
 ·exact aBI prog w i l items hne
theorem qW {k:Sk} {its:Array Value} (h:AtK k s.heap a its) (hQ:Q (.ref s.heap.objs.size) { s with heap:=s.heap.push (itK k a) }):wpAny (model prog w) A (pyIter (.ref a)) Q E s:=by
 cases k
 ·exact wpAny_pyIter_list h hQ
 ·exact wpAny_pyIter_tuple h hQ
section
variable {σ:St}
theorem Inv.seqK (I:Inv X pins σ H s) {k:Sk} (h:SqK k X.K H a xs):∃ its:List Value,bJ xs its/\AtK k s.heap a its.toArray:=by
 cases k
 ·obtain ⟨its,r,p,_⟩:=I.list h; exact ⟨its,r,p.isList⟩
 ·obtain ⟨its,r,p,_⟩:=I.tuple h; exact ⟨its,r,p⟩
theorem Inv.seqK_inj (I:Inv X pins σ H s) {k:Sk} (h:SqK k X.K H a xs) (h':SqK k X.K H a ys):xs=ys:=by
 cases k
 ·exact I.list_inj h h'
 ·exact I.tuple_inj h h'
theorem Inv.seq_ne (I:Inv X pins σ H s) {k:Sk} (h:SqK k X.K H a xs) (f:hX X pins H b):a≠b:=by
 have rd:∀ {u:HO},Rd H a u->a≠b:=fun {u} r z=>by
  rcases r with r | ⟨o,r⟩ <;> (rw [z,f.1] at r; cases r)
 have kk:∀ {o:Obj},X.K.lookup a=some o->a≠b:=fun {o} e z=>by
  have e1:=I.ok.mod.kin a o e
  rcases f.2.2.2.1 with q | q
  ·exact I.ok.noex a o e1 (z ▸ q)
  ·exact Qv _ (Ql (Qo (I.ok.bs a o e1).1) (z ▸ q))
 cases k
 ·rcases h with h | ⟨o,_,_,e,_⟩
  ·exact rd h
  ·exact kk e
 ·rcases h with h | ⟨o,_,_,e,_⟩
  ·exact rd h
  ·exact kk e
theorem Inv.turnedL (ch:List Addr) (I:Inv X pins σ H s) (k:∀ b o,b∉ch->s.heap.get? b=some o->h'.get? b=some o) (f:∀ b∈ch,hX X pins H b):Inv X pins σ H { s with heap:=h',toks:=t' }:=by
 have nit:∀ b u,H b=some u->b∉ch:=fun b u e z=>by rw [(f b z).1] at e; cases e
 have nL:X.env.locals∉ch:=fun z=>(f _ z).2.1 rfl
 refine I.step (g':=s.gens) (d':=s.drawn) (ch:=ch) (fun b hb=>⟨(f b hb).2.2.2.1,(f b hb).2.1,(f b hb).2.2.2.2.1,(f b hb).2.2.2.2.2⟩) (fun b o _ _ hc e _=>k b o hc e) (fun b o _ _ hc e _=>⟨o.slots,k b o hc e⟩) (fun _ _ _ _ n=>n)
  (fun b o hc e=>⟨o,k b o hc e⟩) (fun _ _ e=>e) (fun _ _ _ e=>e) (fun b ps e=>⟨#[],by rw [e]; simp⟩) (fun m hm=>?_) (fun b u e=>?_) I.bare
 ·obtain ⟨o,es,ep,ho,r⟩:=hm
  exact ⟨o,es,ep,k _ o nL ho,r⟩
 ·refine (I.hok b u e).stay (fun c v hc q=>k c v ?_ q) (fun _ q=>q) fun _ _ q=>q
  rcases hc with z | z
  ·rw [z]; exact nit b u e
  ·exact nit c _ z
theorem Inv.trackO {D:Addr} {u:HO} (I:Inv X pins σ H s) (new:cO X.prog X.w (upd H D u) s.heap D u) (hn:H D=none) (hL:D≠X.env.locals)
  (h1:X.s₀.heap.objs.size<=D) (h2:∀ x c,X.env.cells.lookup x=some c->c≠D) (h3:∀ p∈X.pn++pins,p.1≠D):Inv X pins σ (upd H D u) s:=by
 have ne:∀ b v,H b=some v->b≠D:=fun b v e z=>by rw [z,hn] at e; cases e
 refine I.step (g':=s.gens) (d':=s.drawn) (t':=s.toks) (h':=s.heap) (ch:=[D]) (fun b hb=>?_) (fun b o _ _ _ e _=>e) (fun b o _ _ _ e _=>⟨o.slots,e⟩) (fun b o hc _ n=>?_) (fun b o _ e=>⟨o,e⟩)
  (fun b xs e=>by rw [aK (ne b _ e)]; exact e) (fun b o v e=>by rw [aK (ne b _ e)]; exact e) (fun b ps e=>⟨#[],by rw [aK (ne b _ e),e]; simp⟩) (fun _ h=>h) (fun b v e=>?_) I.bare
 ·have e:b=D:=by simpa using hb
  subst e
  exact ⟨.inr h1,hL,h2,h3⟩
 ·rw [aK (by simpa using hc)]; exact n
 ·by_cases hb:b=D
  ·subst hb
   rw [aB] at e; cases e
   exact new
  ·rw [aK hb] at e
   exact (I.hok b v e).stay (fun c v _ q=>q) (fun c q=>by rw [aK (ne c _ q)]; exact q) fun c xs q=>by rw [aK (ne c _ q)]; exact q
end
def Itz (K:PySem.W.Frag) (k1 k2:Sk) (a b:Addr):It :=
 ⟨fun i H => ∃ xs ys x y, SqK k1 K H a xs /\ SqK k2 K H b ys /\ xs[i]? = some x /\ ys[i]? = some y,
  fun i H v H'=>∃ p,H p=none/\v=.ref p/\∀ xs ys,SqK k1 K H a xs->SqK k2 K H b ys->∃ x y,xs[i]?=some x/\ys[i]?=some y/\H'=upd H p (.tup [x,y]),
  fun i H=>∃ xs ys,SqK k1 K H a xs/\SqK k2 K H b ys/\min xs.length ys.length=i⟩
theorem aCG {x1} {pos:Pos} (k1 k2:Sk) (a b z TI TO i1 i2:Addr) (D:∀ l1 l2:Addr,(∀ c∈[z,TI,TO,i1,i2],l1≠c)->(∀ c∈[z,TI,TO,i1,i2],l2≠c)->ZipApart z TI TO i1 i2 l1 l2) :
  Turn P w K (.Tuple es x1 pos) (Itz K k1 k2 a b) [z,TI,TO,i1,i2] z (fun i h=>IsZip h z TI TO .none/\IsPair h TI (.ref i1) (.ref i2)/\(∃ x y,IsPair h TO x y)/\ItK k1 h i1 a i/\ItK k2 h i2 b i) where
 mem:=by simp
 obj:=fun i h st c hc=>by
  obtain ⟨hz,hTI,⟨x,y,hTO⟩,h1,h2⟩:=st
  simp only [Qj,Qq,or_false] at hc
  rcases hc with rfl | rfl | rfl | rfl | rfl
  ·exact ⟨_,hz,fun v q=>by cases q⟩
  ·exact ⟨_,hTI,fun v q=>by cases q⟩
  ·exact ⟨_,hTO,fun v q=>by cases q⟩
  ·exact h1.obj
  ·exact h2.obj
 keep:=fun i h h' st k=>by
  obtain ⟨hz,hTI,⟨x,y,hTO⟩,h1,h2⟩:=st
  exact ⟨k z (by simp) _ hz,k TI (by simp) _ hTI,⟨x,y,k TO (by simp) _ hTO⟩,h1.at fun o e=>k i1 (by simp) o e,h2.at fun o e=>k i2 (by simp) o e⟩
 item:=by
  intro X hP hw hK hc i pins s σ H E I hf st hg
  subst hP hw hK
  obtain ⟨hz,hTI,⟨x0,y0,hTO⟩,h1,h2⟩:=st
  obtain ⟨xs,ys,x,y,ha,hb,hx,hy⟩:=hg
  obtain ⟨its,rv,pa⟩:=I.seqK ha
  obtain ⟨jts,rw',pb⟩:=I.seqK hb
  obtain ⟨u,hu,ru⟩:=rv.get hx
  obtain ⟨v,hv,rv2⟩:=rw'.get hy
  have na:∀ c∈[z,TI,TO,i1,i2],a≠c:=fun c hc'=>I.seq_ne ha (hf c hc')
  have nb:∀ c∈[z,TI,TO,i1,i2],b≠c:=fun c hc'=>I.seq_ne hb (hf c hc')
  have DD:=D a b na nb
  have hT:s.TypeIs (.ref z) "zip" := ⟨_,hz,rfl⟩
  have hi1:i < its.toArray.size:=by rw [Qk]; exact (Qd.mp hu).1
  have hi2:i < jts.toArray.size:=by rw [Qk]; exact (Qd.mp hv).1
  unfold pyNext
  refine wpAny_bind (wpAny_attempt (wpAny_callSpecial?_slot (name:=Str.ofString "__next__") hT PySem.F.slot_zip_next (wpAny_call_entry PySem.F.slot_zip_next hT PySem.F.entry_zip_next
   (aD7 DD (oO k1 X.prog X.w i1 a its.toArray (na i1 (by simp))) (oO k2 X.prog X.w i2 b jts.toArray (nb i2 (by simp))) hz hTI hTO ⟨h1,pa⟩ ⟨h2,pb⟩ hi1 hi2 fun h' u' v' pu pv hz' hTO' s1 s2 hT' kp=>wpAny_pure ?_) (PySem.F.args_zip_next_1 _))))
  have eu:u'=u:=by
   have q:its[i]?=some u':=by simpa using pu
   rw [hu] at q
   exact (Option.some.inj q).symm
  have ev:v'=v:=by
   have q:jts[i]?=some v':=by simpa using pv
   rw [hv] at q
   exact (Option.some.inj q).symm
  subst eu ev
  refine ⟨_,rfl,wpAny_letOwnedTupleGo_zip hz' fun h2 hz2 sb2=>?_⟩
  have Tz:s.heap.objs.size≠z:=Zy (Qo hz)
  have hT2:IsPair h2 s.heap.objs.size u' v':=sb2.extBut _ _ Tz hT'
  have hf0:=I.hok.fresh (Qg s.heap.objs.size)
  have fz:=I.fpOk (Qg s.heap.objs.size) hf0
  have I2:Inv X pins σ H { s with heap:=h2 }:=by
   refine I.turnedL (t':=s.toks) [z,TO,i1,i2] (fun c o hc' e=>?_) (fun c hc'=>hf c ?_)
   ·simp only [Qj,Qq,or_false,not_or] at hc'
    exact sb2.extBut _ _ hc'.1 (kp c o hc'.1 hc'.2.1 hc'.2.2.1 hc'.2.2.2 e)
   ·simp only [Qj,Qq,or_false] at hc' ⊢
    rcases hc' with r | r | r | r
    ·exact .inl r
    ·exact .inr (.inr (.inl r))
    ·exact .inr (.inr (.inr (.inl r)))
    ·exact .inr (.inr (.inr (.inr r)))
  have I3:Inv X pins σ (upd H s.heap.objs.size (.tup [x,y])) { s with heap:=h2 }:=by
   refine I2.trackO (show cO X.prog X.w _ _ _ (.tup [x,y]) from ⟨by show 2<=sizeLine; rw [sizeLine_eq]; decide,[u',v'],0,.cons ru (.cons rv2 .nil),hT2⟩) hf0 fz.2.1 I.sz fz.2.2.2.2.1 fz.2.2.2.2.2
  refine ⟨.ref s.heap.objs.size,_,I3,rfl,⟨s.heap.objs.size,hf0,rfl,fun xs' ys' ha' hb'=>?_⟩,⟨hz2,sb2.extBut _ _ DD.TIz (kp _ _ DD.TIz DD.TITO DD.TIi1 DD.TIi2 hTI),⟨_,_,sb2.extBut _ _ DD.TOz hTO'⟩,s1.1.at fun o e=>sb2.extBut _ _ DD.i1z e,s2.1.at fun o e=>sb2.extBut _ _ DD.i2z e⟩,fun c hc'=>?_⟩
  ·rw [I.seqK_inj ha' ha,I.seqK_inj hb' hb]
   exact ⟨x,y,hx,hy,rfl⟩
  ·have cl:c≠s.heap.objs.size:=by
    obtain ⟨o,e⟩:∃ o,s.heap.get? c=some o:=by
     simp only [Qj,Qq,or_false] at hc'
     rcases hc' with rfl | rfl | rfl | rfl | rfl
     ·exact ⟨_,hz⟩
     ·exact ⟨_,hTI⟩
     ·exact ⟨_,hTO⟩
     ·obtain ⟨o,e,_⟩:=h1.obj; exact ⟨o,e⟩
     ·obtain ⟨o,e,_⟩:=h2.obj; exact ⟨o,e⟩
    exact Jp (Qo e)
   rw [aK cl]
   exact (hf c hc').1
 done:=by
  intro X hP hw hK hc i pins s σ H E I hf st hg
  subst hP hw hK
  obtain ⟨hz,hTI,⟨x0,y0,hTO⟩,h1,h2⟩:=st
  obtain ⟨xs,ys,ha,hb,hmin⟩:=hg
  obtain ⟨its,rv,pa⟩:=I.seqK ha
  obtain ⟨jts,rw',pb⟩:=I.seqK hb
  have la:=rv.length
  have lb:=rw'.length
  have na:∀ c∈[z,TI,TO,i1,i2],a≠c:=fun c hc'=>I.seq_ne ha (hf c hc')
  have nb:∀ c∈[z,TI,TO,i1,i2],b≠c:=fun c hc'=>I.seq_ne hb (hf c hc')
  have DD:=D a b na nb
  have hT:s.TypeIs (.ref z) "zip" := ⟨_,hz,rfl⟩
  unfold pyNext
  refine wpAny_bind (wpAny_attempt (wpAny_callSpecial?_slot (name:=Str.ofString "__next__") hT PySem.F.slot_zip_next (wpAny_call_entry PySem.F.slot_zip_next hT PySem.F.entry_zip_next
   (aFP (I.ok.hd hc) DD (oO k1 X.prog X.w i1 a its.toArray (na i1 (by simp))) (oO k2 X.prog X.w i2 b jts.toArray (nb i2 (by simp))) hz hTI hTO ⟨h1,pa⟩ ⟨h2,pb⟩ (by rw [Qk,Qk]; omega) fun h' e kp he=>?_) (PySem.F.args_zip_next_1 _))))
  obtain ⟨oe,hoe,hce⟩:=he
  refine wpAny_bind (wpAny_isInstance (T := "StopIteration") (b:=true) ⟨oe,hoe,hce⟩ isSubtype_stop (wpAny_pure ⟨rfl,?_⟩))
  refine I.turnedL (t':=s.toks) [z,TO,i1,i2] (fun c o hc' e=>?_) (fun c hc'=>hf c ?_)
  ·simp only [Qj,Qq,or_false,not_or] at hc'
   exact kp c o hc'.1 hc'.2.1 hc'.2.2.1 hc'.2.2.2 e
  ·simp only [Qj,Qq,or_false] at hc' ⊢
   rcases hc' with r | r | r | r
   ·exact .inl r
   ·exact .inr (.inr (.inl r))
   ·exact .inr (.inr (.inr (.inl r)))
   ·exact .inr (.inr (.inr (.inr r)))
 self:=fun _ _ _ _ _ st h=>wpAny_pyIter_zip st.1 h
abbrev zh1 (k1:Sk) (h:Heap) (a:Addr):Heap:=h.push (itK k1 a)
abbrev zh2 (k1 k2:Sk) (h:Heap) (a b:Addr):Heap:=(zh1 k1 h a).push (itK k2 b)
abbrev zh3 (k1 k2:Sk) (h:Heap) (a b:Addr):Heap:=(zh2 k1 k2 h a b).push { cls:=.type "tuple",data:=.seq #[.ref h.objs.size,.ref (zh1 k1 h a).objs.size] }
abbrev zh4 (k1 k2:Sk) (h:Heap) (a b:Addr):Heap:=(zh3 k1 k2 h a b).push { cls:=.type "tuple",data:=.seq #[.none,.none] }
abbrev zh5 (k1 k2:Sk) (h:Heap) (a b:Addr):Heap:=(zh4 k1 k2 h a b).push { cls:=.type "zip",data:=.fields #[.none,.bool false,.bool false,.ref (zh2 k1 k2 h a b).objs.size,.ref (zh3 k1 k2 h a b).objs.size] }
theorem yD (k1 k2:Sk) (a b:Addr) (xs ys:Array Value) :
  Meets (Builtin.«zip.__new__» ⟨[.type "zip",.ref a,.ref b],[]⟩) (fun _ R s=>AtK k1 s.heap a xs/\AtK k2 s.heap b ys/\R (.ok (.ret (.ref (zh4 k1 k2 s.heap a b).objs.size))) { s with heap:=zh5 k1 k2 s.heap a b }) :=
 .of_wp fun prog w A R s h=>by
  obtain ⟨hp,g,d,tk,os⟩:=s
  obtain ⟨hl1,hl2,h⟩:=h
  have hsub:=sub_zip
  have hA:AtK k1 (Shared.heap ⟨hp,g,d,tk,os⟩) a xs:=hl1
  have hB:AtK k2 (Shared.heap ⟨hp.push (itK k1 a),g,d,tk,os⟩) b ys:=AtK.at hl2 fun o e=>Qa _ e
  wp_walk using qW hA,qW hB
  exact ⟨_,rfl,h⟩
def aHs (K:PySem.W.Frag) (k1 k2:Sk) (ta:TA):TI:=fun σ H R=>ta σ H fun vs H1=>∃ a b xs ys,vs = [.ref a,.ref b]/\SqK k1 K H1 a xs/\SqK k2 K H1 b ys/\R (Itz K k1 k2 a b) H1
theorem aCH (k1 k2:Sk) {a b:Expr} {ta:TA} {p pos:Pos} (hg:Gl X "zip") (hm:X.mg "zip" = none) (ha:PA X [a,b] ta) (hs:starEach [a,b] X.env = [(false,eval a X.env),(false,eval b X.env)]:=by rfl) (hs2:starEach [b] X.env = [(false,eval b X.env)]:=by rfl) :
  PI X (.Tuple es x1 tpos) (.Call (.Name "zip" p) [a,b] [] pos) (aHs X.K k1 k2 ta):=by
 intro pins s σ H R I h
 refine Call_ (jN (u:=.type "zip") I hg hm (by decide +kernel) (PyProof.Rows.callWith_type1 (thn (ha pos pins s σ H _ I h) fun us s1 hx9=>?_) (by rw [hs,hs2]) (by rw [hs2]; rfl)))
 obtain ⟨vs,H1,I1,r1,q1⟩:=hx9
 obtain ⟨l1,l2,xs,ys,rfl,hA,hB,q⟩:=q1
 obtain ⟨u1,u2,rfl,r1',r2'⟩:=mE r1
 cases r1'
 cases r2'
 obtain ⟨its,rv,pa⟩:=I1.seqK hA
 obtain ⟨jts,rw',pb⟩:=I1.seqK hB
 refine callType_new PySem.F.called_zip (by decide) (PySem.F.typeCall_zip_2 _ _) (PySem.F.newCall_zip_2 _ _) (fun obj=>PySem.F.args_object_init_3 obj _ _) PySem.F.entry_zip_new (yD k1 k2 l1 l2 its.toArray jts.toArray) ⟨pa,pb,?_⟩
 have n1:(zh1 k1 s1.heap l1).objs.size=s1.heap.objs.size+1:=Jl ..
 have n2:(zh2 k1 k2 s1.heap l1 l2).objs.size=s1.heap.objs.size+2:=by rw [Jl,n1]
 have n3:(zh3 k1 k2 s1.heap l1 l2).objs.size=s1.heap.objs.size+3:=by rw [Jl,n2]
 have n4:(zh4 k1 k2 s1.heap l1 l2).objs.size=s1.heap.objs.size+4:=by rw [Jl,n3]
 have g5:IsZip (zh5 k1 k2 s1.heap l1 l2) (zh4 k1 k2 s1.heap l1 l2).objs.size (zh2 k1 k2 s1.heap l1 l2).objs.size (zh3 k1 k2 s1.heap l1 l2).objs.size .none:=Qm _ rfl
 have g4:IsPair (zh5 k1 k2 s1.heap l1 l2) (zh3 k1 k2 s1.heap l1 l2).objs.size .none .none:=Qa _ (Qm _ rfl)
 have g3:IsPair (zh5 k1 k2 s1.heap l1 l2) (zh2 k1 k2 s1.heap l1 l2).objs.size (.ref s1.heap.objs.size) (.ref (zh1 k1 s1.heap l1).objs.size):=Qa _ (Qa _ (Qm _ rfl))
 have g2:ItK k2 (zh5 k1 k2 s1.heap l1 l2) (zh1 k1 s1.heap l1).objs.size l2 0:=(ItK.new k2 (zh1 k1 s1.heap l1) l2).at fun o e=>Qa _ (Qa _ (Qa _ e))
 have g1:ItK k1 (zh5 k1 k2 s1.heap l1 l2) s1.heap.objs.size l1 0:=(ItK.new k1 s1.heap l1).at fun o e=>Qa _ (Qa _ (Qa _ (Qa _ e)))
 have kp:∀ c o,s1.heap.get? c=some o->(zh5 k1 k2 s1.heap l1 l2).get? c=some o:=fun c o e=>Qa _ (Qa _ (Qa _ (Qa _ (Qa _ e))))
 refine ⟨⟨_,g5,rfl⟩,wpAny_pyIter_zip (f0:=.none) g5 ?_⟩
 rw [n1,n2,n3,n4] at *
 have I2:Inv X pins σ H1 { s1 with heap:=zh5 k1 k2 s1.heap l1 l2 }:=I1.kept (t':=s1.toks) kp
 refine ⟨s1.heap.objs.size+4,[s1.heap.objs.size+4,s1.heap.objs.size+2,s1.heap.objs.size+3,s1.heap.objs.size,s1.heap.objs.size+1],_,_,H1,rfl,I2,aCG k1 k2 l1 l2 _ _ _ _ _ ?_,⟨g5,g3,⟨_,_,g4⟩,g1,g2⟩,fun c hc=>?_,q⟩
 ·intro m1 m2 h1 h2
  have d:∀ i j:Nat,i≠j->s1.heap.objs.size+i≠s1.heap.objs.size+j:=fun i j h=>by omega
  exact ⟨d 2 4 (by decide),d 3 4 (by decide),d 0 4 (by decide),d 1 4 (by decide),d 2 3 (by decide),d 2 0 (by decide),d 2 1 (by decide),d 3 0 (by decide),d 3 1 (by decide),d 0 1 (by decide),
   h1 _ (by simp),h1 _ (by simp),h1 _ (by simp),h1 _ (by simp),h2 _ (by simp),h2 _ (by simp),h2 _ (by simp),h2 _ (by simp)⟩
 ·have hc':s1.heap.objs.size<=c:=by
   simp only [Qj,Qq,or_false] at hc
   rcases hc with r | r | r | r | r
   ·rw [r]; exact Zl _ _
   ·rw [r]; exact Zl _ _
   ·rw [r]; exact Zl _ _
   ·rw [r]; exact Qg _
   ·rw [r]; exact Zl _ _
  exact I1.fpOk hc' (I1.hok.fresh hc')
open PySem.AutoSeq1 (wpAny_loadPart')
theorem uK (l b:Addr) (items items2:Array Value) (n n2:Nat) (dd dd2:Option Addr) (sl sl2:Array (Option Value)) (hc0:items.isEmpty=true) :
  Meets (Builtin.«tuple.__add__» ⟨[.ref l,.ref b],[]⟩) (fun _ R s=>s.heap.get? l=some { cls:=.type "tuple",dict:=dd,data:=.seq items n,slots:=sl }/\s.heap.get? b=some { cls:=.type "tuple",dict:=dd2,data:=.seq items2 n2,slots:=sl2 }/\R (.ok (.ret (Value.ref b))) s) :=
 .of_wp fun prog w A R s h=>by
  obtain ⟨hp,g,d,tk,os⟩:=s
  obtain ⟨hl,hb,h⟩:=h
  have f1:=AutoSeq1.idx_int
  have f2:=AutoSeq1.sub_tuple_tuple
  wp_walk using wpAny_loadPart' hl,wpAny_loadPart' hb
  exact ⟨_,rfl,h⟩
theorem aD8:OpR X (binaryOp .Add) (fun x y H Q=>∃ a b xs ys,x=.ref a/\y=.ref b/\SqT X.K H a xs/\SqT X.K H b ys/\xs.length+ys.length<=sizeLine/\∀ p H',aD H H'->SqT X.K H' p (xs++ys)->Q (.ref p) H'):=by
 intro pins s σ H x y v u Q I rx ry h
 obtain ⟨a,b,xs,ys,rfl,rfl,ha,hb,hz,q⟩:=h
 by_cases hx:xs = []
 ·subst hx
  cases rx
  cases ry
  obtain ⟨its,r1,⟨⟨cls,dd,data,sl⟩,ho,hc,n,hd⟩,_⟩:=I.tuple ha
  obtain ⟨its2,r2,⟨⟨cls2,dd2,data2,sl2⟩,ho2,hc2,n2,hd2⟩,_⟩:=I.tuple hb
  simp only at hc hd hc2 hd2
  subst hc hd hc2 hd2
  cases r1
  exact concat_meets ⟨_,ho,rfl⟩ ⟨_,ho2,rfl⟩ noFill_tuple_add seq_tuple_add PySem.F.slot_tuple_add PySem.F.entry_tuple_add (PySem.F.args_tuple_add_2 _ _)
   (uK a b _ _ n n2 dd dd2 sl sl2 rfl) ⟨ho,ho2,⟨.ref b,H,I,rfl,q b H (aD.refl H) hb⟩⟩
 ·refine aD4 pins s σ H _ _ v u Q I rx ry ⟨a,b,xs,ys,rfl,rfl,ha,hb,hx,hz,fun e=>?_,fun e p hp=>?_⟩
  ·subst e
   exact q a H (aD.refl H) (by rw [Xe]; exact ha)
  ·exact q p _ (aD.new hp) (SqT.of aB)
theorem nM {t:Addr} {lo:Option Int} (ht:IsTup s.heap t items) (hs:s.heap.IsSliceOf sl vl vu .none) (pl:IsPart vl lo) (pu:IsPart vu hi) (hw:HT.sIx items.size 0 lo=0/\HT.sIx items.size items.size hi=items.size) (h:Q (.ref t) s):wpAny (model prog w) A (getItem (.ref t) (.ref sl)) Q E s:=by
 obtain ⟨os,hos,hcs,hds⟩:=id hs
 have hTs:s.TypeIs (.ref sl) "slice" := ⟨os,hos,hcs⟩
 unfold getItem
 try with_reducible refine wpAny_holding ?_
 first | refine wpAny_bind (wpAny_pure ?_) | skip
 refine wpAny_bind (wpAny_sequenceKey ht.typeIs (by decide) ?_)
 refine wpAny_bind (wpAny_callSpecial?_slot (name:=Str.ofString "__getitem__") ht.typeIs PyProof.Rows.slot_tuple_getitem
  (wpAny_call_entry PyProof.Rows.slot_tuple_getitem ht.typeIs entry_tuple_getitem ?_ (args_tuple_getitem _ _)))
 refine wpAny_bind (m:=Builtin.Tuple.tupleItemsOf (.ref t)) (tupleItemsOf_ ht ?_)
 refine wpAny_bind (wpAny_typeOf hTs ?_)
 rw [if_pos (by decide)]
 refine wpAny_bind (HT.sliceApplied_gen hs pl pu ?_)
 have hyes:(((HT.sIx items.size 0 lo:Nat):Int)==0 && (1:Int)==1 && (HT.sIx items.size items.size hi - HT.sIx items.size 0 lo)==items.size)=true:=by
  rw [hw.1,hw.2]; simp
 show wpAny _ _ (if (((HT.sIx items.size 0 lo:Nat):Int)==0 && (1:Int)==1 && (HT.sIx items.size items.size hi - HT.sIx items.size 0 lo)==items.size)=true then _ else _) _ _ s
 rw [if_pos hyes]
 unfold Builtin.Tuple.tupleIsExact
 refine wpAny_bind (wpAny_bind (wpAny_typeOf ht.typeIs (wpAny_pure ?_)))
 refine wpAny_ite_split (fun _=>wpAny_bind (wpAny_rule (wpAny_pure ⟨_,rfl,wpAny_pure h⟩))) (fun hab=>absurd (by rfl) hab)
theorem aD9:SlR X (fun x lo hi H Q=>∃ a xs,x=.ref a/\SqT X.K H a xs/\∀ p H',aD H H'->SqT X.K H' p (nV xs lo hi)->Q (.ref p) H'):=by
 intro pins s σ H x v vl vu lo hi sl Q I rx hs pl pu h
 obtain ⟨a,xs,rfl,hx,q⟩:=h
 by_cases hw:HT.sIx xs.length 0 lo=0/\HT.sIx xs.length xs.length hi=xs.length
 ·cases rx
  obtain ⟨its,r,ht,hz⟩:=I.tuple hx
  have hlen:its.toArray.size=xs.length:=by rw [Qk]; exact r.length.symm
  refine ⟨"tuple",_,PyProof.Rows.slot_tuple_getitem.lookup,ht.typeIs,?_⟩
  refine nM ht hs pl pu (by rw [hlen]; exact hw) ⟨.ref a,H,I,rfl,q a H (aD.refl H) ?_⟩
  have e:nV xs lo hi=xs:=by
   unfold nV
   rw [hw.1,hw.2,List.drop_zero,Nat.sub_zero,Jh]
  rw [e]; exact hx
 ·exact aFH pins s σ H _ v vl vu lo hi sl Q I rx hs pl pu ⟨a,xs,rfl,hx,hw,fun p hp=>q p _ (aD.new hp) (SqT.of aB)⟩
theorem aBJ (xs:List V) (k:Nat):nV xs (some (k:Int)) none=xs.drop k:=by
 unfold nV
 rw [HT.sIx_none,HT.sIx_nat]
 by_cases h:k<=xs.length
 ·rw [Nat.min_eq_left h,Jt (by rw [Zi]; exact Qg _)]
 ·rw [Nat.min_eq_right (by omega),Wg (Qg _),Wg (by omega),List.take_nil]
def rK (N frn:List Str) (fr:List Nat):Bool:=frn.length==fr.length && (frn.zip fr).all fun y=>N[y.2]?==some y.1
theorem aW {fr:List Nat} (sc:Scope) (N:List Str) (h1:X.env.scope=sc) (h2:X.N=N) (h:(pV sc scope own frn && rK N frn fr)=true):CompOk X scope own fr frn:=by
 rw [Jb] at h
 obtain ⟨ha,hb⟩:=h
 unfold rK at hb
 simp only [Jb,beq_iff_eq,Qy] at hb
 refine ⟨by rw [h1]; exact ha,fun k x hk=>?_,hb.1.symm⟩
 have hlt:k < fr.length:=by rw [<- hb.1]; exact (Qd.mp hk).1
 refine ⟨fr[k],Qc hlt,?_⟩
 have hm:(x,fr[k])∈frn.zip fr:=by
  refine Qe (i:=k) ?_
  rw [Zu]
  exact ⟨hk,Qc hlt⟩
 rw [h2]
 exact hb.2 _ hm
section
variable {own:Nat} {fr:List Nat} {σ:St} {Q:Hp->List V->Prop}
theorem oP (n:Nat) (hn:n<=sizeLine) (SH:St->Prop) (Pv:Nat->List V->Hp->Prop) (hσ:SH (blk own fr σ)) (h0:Pv 0 [] H) (hlen:∀ i ys H,Pv i ys H->ys.length<=i)
  (hstop:∀ ys H,Pv n ys H->J.stop n H) (hgo:∀ i ys H,i < n->Pv i ys H->J.go i H)
  (hs:∀ i ys σ x H H',i < n->SH σ->Pv i ys H->J.yld i H x H'->ys.length < sizeLine->g x σ H' fun σ2 H2=>tt σ2 H2 fun b H3=>if b=true then te σ2 H3 fun y H4=>ys.length < sizeLine/\SH σ2/\Pv (i+1) (ys++[y]) H4 else SH σ2/\Pv (i+1) ys H3)
  (hd:∀ ys H,Pv n ys H->Q H ys) :
  ∃ W:Nat->Nat->List V->St->Hp->Prop,(∃ m,W 0 m [] (blk own fr σ) H)/\∀ i m ys σ' H,W i m ys σ' H ->
   (J.stop i H/\Q H ys) ∨
   (J.go i H/\∃ N:List V->St->Hp->Prop,(∀ ys' σ2 H2,N ys' σ2 H2->∃ m',m' < m/\W (i+1) m' ys' σ2 H2) /\
    ∀ x H',J.yld i H x H'->g x σ' H' fun σ2 H2=>tt σ2 H2 fun b H3=>if b=true then te σ2 H3 fun y H4=>ys.length < sizeLine/\N (ys++[y]) σ2 H4 else N ys σ2 H3):=by
 refine ⟨fun i m ys σ' H=>m=n - i/\i<=n/\SH σ'/\Pv i ys H,⟨n,by simp,Jj _,hσ,h0⟩,?_⟩
 rintro i m ys σ' H ⟨rfl,hi,sh,p⟩
 by_cases hlt:i < n
 ·refine .inr ⟨hgo i ys H hlt p,fun ys' σ2 H2=>SH σ2/\Pv (i+1) ys' H2,fun ys' σ2 H2 ⟨e,q⟩=>⟨n - (i+1),by omega,rfl,hlt,e,q⟩,fun x H' y=>?_⟩
  exact hs i ys σ' x H H' hlt sh p y (by have:=hlen i ys H p; omega)
 ·have e:i=n:=by omega
  subst e
  exact .inl ⟨hstop ys H p,hd ys H p⟩
theorem mH (SH:St->Prop) (Pv:Nat->List V->Hp->Prop) (hn:xs.length<=sizeLine) (hσ:SH (blk own fr σ)) (h0:Pv 0 [] H) (hlen:∀ i ys H,Pv i ys H->ys.length<=i) (hl:∀ i ys H,Pv i ys H->SqT K H a xs) (hs:∀ i ys σ x H,xs[i]?=some x->SH σ->Pv i ys H->ys.length < sizeLine->g x σ H fun σ2 H2=>tt σ2 H2 fun b H3=>if b=true then te σ2 H3 fun y H4=>ys.length < sizeLine/\SH σ2/\Pv (i+1) (ys++[y]) H4 else SH σ2/\Pv (i+1) ys H3) (hd:∀ ys H,Pv xs.length ys H->Q H ys) :
  ∃ W:Nat->Nat->List V->St->Hp->Prop,(∃ m,W 0 m [] (blk own fr σ) H)/\∀ i m ys σ' H,W i m ys σ' H ->
   ((Itt K a).stop i H/\Q H ys) ∨
   ((Itt K a).go i H/\∃ N:List V->St->Hp->Prop,(∀ ys' σ2 H2,N ys' σ2 H2->∃ m',m' < m/\W (i+1) m' ys' σ2 H2) /\
    ∀ x H',(Itt K a).yld i H x H'->g x σ' H' fun σ2 H2=>tt σ2 H2 fun b H3=>if b=true then te σ2 H3 fun y H4=>ys.length < sizeLine/\N (ys++[y]) σ2 H4 else N ys σ2 H3):=by
 refine oP xs.length hn SH Pv hσ h0 hlen (fun ys H p=>⟨xs,hl _ _ _ p,Qg _⟩) (fun i ys H hi p=>⟨xs,xs[i],hl _ _ _ p,Qc hi⟩) (fun i ys σ x H H' hi sh p y hz=>?_) hd
 obtain ⟨e,y⟩:=y
 subst e
 exact hs i ys σ x _ (y xs (hl _ _ _ p)) sh p hz
theorem gN (SH:St->Prop) (Pv:Nat->List V->Hp->Prop) (hn:xs.length<=sizeLine) (hσ:SH (blk own fr σ)) (h0:Pv 0 [] H) (hlen:∀ i ys H,Pv i ys H->ys.length<=i) (hl:∀ i ys H,Pv i ys H->SqL K H a xs) (hs:∀ i ys σ x H,xs[i]?=some x->SH σ->Pv i ys H->ys.length < sizeLine->g x σ H fun σ2 H2=>tt σ2 H2 fun b H3=>if b=true then te σ2 H3 fun y H4=>ys.length < sizeLine/\SH σ2/\Pv (i+1) (ys++[y]) H4 else SH σ2/\Pv (i+1) ys H3) (hd:∀ ys H,Pv xs.length ys H->Q H ys) :
  ∃ W:Nat->Nat->List V->St->Hp->Prop,(∃ m,W 0 m [] (blk own fr σ) H)/\∀ i m ys σ' H,W i m ys σ' H ->
   ((Itl K a).stop i H/\Q H ys) ∨
   ((Itl K a).go i H/\∃ N:List V->St->Hp->Prop,(∀ ys' σ2 H2,N ys' σ2 H2->∃ m',m' < m/\W (i+1) m' ys' σ2 H2) /\
    ∀ x H',(Itl K a).yld i H x H'->g x σ' H' fun σ2 H2=>tt σ2 H2 fun b H3=>if b=true then te σ2 H3 fun y H4=>ys.length < sizeLine/\N (ys++[y]) σ2 H4 else N ys σ2 H3):=by
 refine oP xs.length hn SH Pv hσ h0 hlen (fun ys H p=>⟨xs,hl _ _ _ p,Qg _⟩) (fun i ys H hi p=>⟨xs,xs[i],hl _ _ _ p,Qc hi⟩) (fun i ys σ x H H' hi sh p y hz=>?_) hd
 obtain ⟨e,y⟩:=y
 subst e
 exact hs i ys σ x _ (y xs (hl _ _ _ p)) sh p hz
theorem eY (SH:St->Prop) (Pv:Nat->List V->Hp->Prop) (hn:n<=sizeLine) (hσ:SH (blk own fr σ)) (h0:Pv 0 [] H) (hlen:∀ i ys H,Pv i ys H->ys.length<=i) (hs:∀ i ys σ H,i < n->SH σ->Pv i ys H->ys.length < sizeLine->g (.int (lo+i)) σ H fun σ2 H2=>tt σ2 H2 fun b H3=>if b=true then te σ2 H3 fun y H4=>ys.length < sizeLine/\SH σ2/\Pv (i+1) (ys++[y]) H4 else SH σ2/\Pv (i+1) ys H3) (hd:∀ ys H,Pv n ys H->Q H ys) :
  ∃ W:Nat->Nat->List V->St->Hp->Prop,(∃ m,W 0 m [] (blk own fr σ) H)/\∀ i m ys σ' H,W i m ys σ' H ->
   ((Itr lo n).stop i H/\Q H ys) ∨
   ((Itr lo n).go i H/\∃ N:List V->St->Hp->Prop,(∀ ys' σ2 H2,N ys' σ2 H2->∃ m',m' < m/\W (i+1) m' ys' σ2 H2) /\
    ∀ x H',(Itr lo n).yld i H x H'->g x σ' H' fun σ2 H2=>tt σ2 H2 fun b H3=>if b=true then te σ2 H3 fun y H4=>ys.length < sizeLine/\N (ys++[y]) σ2 H4 else N ys σ2 H3):=by
 refine oP n hn SH Pv hσ h0 hlen (fun ys H p=>Qg _) (fun i ys H hi p=>hi) (fun i ys σ x H H' hi sh p y hz=>?_) hd
 obtain ⟨e,y⟩:=y
 subst e y
 exact hs i ys σ _ hi sh p hz
end
def aGM (i j:Int):Prop:=0 < j/\j < 1267650600228229401496703205376
theorem aCI:OpR X (binaryOp .FloorDiv) (rI aGM fun i j=>.int (i / j)):=opI fun i j _ _ _ _ _ hc q=>by
 have h1:(0:Int) < j:=hc.1
 have h2:j < 1267650600228229401496703205376:=hc.2
 refine floordiv_int (by omega) (by rw [Zs i (by omega)]; exact q) (.inl (PyProof.noPylong_of_log2 ?_))
 have h3:j.natAbs.log2 < 100:=(Wz (by omega)).mpr (by omega)
 omega
theorem aAS:∀ {xs:List V} {us:List Value},xs.length=us.length->(∀ (j:Nat) (x:V) (u:Value),xs[j]?=some x->us[j]?=some u->bI x u)->bJ xs us
 | [],[],_,_=>.nil
 | [],_::_,h,_=>by cases h
 | _::_,[],h,_=>by cases h
 | x::xs,u::us,h,k=>.cons (k 0 x u rfl rfl) (aAS (by simpa using h) fun j y v hy hv=>k (j+1) y v hy hv)
theorem uL (hc:X.calm=true):gQ X (.type "list") (fun xs H Q=>∃ (a:Addr) (n:Nat),xs = [.ref a]/\H a=some (.rng 0 n)/\n<=1000/\∀ p,H p=none->Q (.ref p) (upd H p (.lst ((bN n).map V.int)))):=by
 intro pins s σ H xs us Q I r h
 obtain ⟨a,n,rfl,ha,hn,q⟩:=h
 obtain ⟨u,rfl,rx⟩:=kJ r
 cases rx
 obtain ⟨t,u,v,e⟩:=I.hok a _ ha
 have hsz:Builtin.Range.rangeSize 0 (n:Int) 1=(n:Int):=by rw [rangeSize_one]; split <;> omega
 have hsm:Builtin.Range.small 0 (n:Int) 1=true:=small_one (by omega) (by omega) (by omega) (by omega)
 refine call_list_range (I.ok.hd hc) e hsm hsz (Qu hn (by decide)) fun h' tk acc' c' kp hl hi=>?_
 have hv:bJ ((bN n).map V.int) acc'.toList:=by
  obtain ⟨h1,h2⟩:=hi
  refine aAS (by unfold bN; simp [h1]) fun j x u hx hu=>?_
  have hj:j < n:=by
   have:=(Qd.mp hu).1
   rw [Array.length_toList,h1] at this
   exact this
  obtain ⟨t,rfl⟩:=h2 j u (by rw [<- Array.getElem?_toList]; exact hu)
  unfold bN at hx
  rw [Qh,Qh,Xc hj] at hx
  have e:V.int (j:Int)=x:=Option.some.inj hx
  rw [<- e]
  exact ⟨t,by rw [Xv,Int.mul_one]⟩
 have hlen:((bN n).map V.int).length<=sizeLine:=by unfold bN; rw [Qb,Qb,Xk,sizeLine_eq]; omega
 exact ⟨.ref s.heap.objs.size,_,I.laid (t':=tk) kp (Qg _) (show cO X.prog X.w _ h' _ (.lst _) from ⟨hlen,acc'.toList,c',hv,hl⟩),rfl,q _ (I.hok.fresh (Qg _))⟩
theorem pX {tk:Tok} {Q:Int×Int×Nat->Shared->Prop} (hs:s.heap.IsSliceOf sl .none .none (.int (-1) tk)) (h:Q ((n:Int) - 1,-1,n) s):wpAny (model prog w) A (Builtin.Slice.sliceApplied (.ref sl) (pure (n:Int))) Q E s:=by
 obtain ⟨os,hos,hcs,hds⟩:=id hs
 unfold Builtin.Slice.sliceApplied Builtin.Slice.sliceFields
 refine wpAny_bind (wpAny_bind (wpAny_field hos hds (x:=.none) rfl (wpAny_bind (wpAny_field hos hds (x:=.none) rfl (wpAny_bind (wpAny_field hos hds (x:=.int (-1) tk) rfl (wpAny_pure ?_)))))))
 refine wpAny_bind (HT.slicePart_ (.int (-1) tk) ?_)
 show wpAny _ _ (if ((-1:Int)==0)=true then _ else _) _ _ s
 rw [if_neg (by decide)]
 refine wpAny_bind (HT.slicePart_ .none (wpAny_bind (HT.slicePart_ .none (wpAny_bind (wpAny_pure ?_)))))
 show wpAny _ _ (match Builtin.Slice.sliceAdjust none none (-1) (n:Int) with | (lo,hi)=>pure (lo,(-1:Int),Builtin.Slice.slicePlaces lo hi (-1))) _ _ s
 have e:Builtin.Slice.sliceAdjust none none (-1) (n:Int)=((n:Int) - 1,-1):=by simp [Builtin.Slice.sliceAdjust]
 rw [e]
 have e2:Builtin.Slice.slicePlaces ((n:Int) - 1) (-1) (-1)=n:=by
  unfold Builtin.Slice.slicePlaces
  rw [if_neg (by decide)]
  by_cases h0:n=0
  ·subst h0; decide
  ·rw [if_pos (by omega)]
   have:((n:Int) - 1 - -1 - 1) / (- -1)+1=n:=by rw [show (- -1:Int)=1 from rfl,Ww]; omega
   rw [this]; simp
 show wpAny _ _ (pure ((n:Int) - 1,(-1:Int),Builtin.Slice.slicePlaces ((n:Int) - 1) (-1) (-1))) _ _ s
 rw [e2]
 exact wpAny_pure h
theorem yE {f g:α->Option β}:∀ {l:List α},(∀ x∈l,f x=g x)->l.filterMap f=l.filterMap g
 | [],_=>rfl
 | x::r,h=>by rw [Zg,Zg,h x (Qn ..),yE fun y hy=>h y (Qs _ hy)]
theorem yF (xs:Array Value):((List.range xs.size).filterMap fun (k:Nat)=>xs[((xs.size:Int) - 1+(k:Int)*(-1)).toNat]?).toArray=xs.toList.reverse.toArray:=by
 have h:=HT.pick_gen xs.toList.reverse.toArray 0 xs.size
 have e:(List.range xs.size).filterMap (fun (k:Nat)=>xs[((xs.size:Int) - 1+(k:Int)*(-1)).toNat]?)=(List.range xs.size).filterMap (fun (m:Nat)=>xs.toList.reverse.toArray[(((0:Nat):Int)+(m:Int)*1).toNat]?):=by
  refine yE fun k hk=>?_
  have hk':=Js.mp hk
  have h1:((xs.size:Int) - 1+(k:Int)*(-1)).toNat=xs.size - 1 - k:=by omega
  have h2:(((0:Nat):Int)+(k:Int)*1).toNat=k:=by omega
  rw [h1,h2]
  simp only [List.getElem?_toArray]
  rw [List.getElem?_reverse (by simpa using hk')]
  simp
 rw [e,h]
 congr 1
 rw [List.drop_zero,Jt (by simp)]
theorem oQ {t:Addr} {tk:Tok} (ht:IsTup s.heap t items) (hs:s.heap.IsSliceOf sl .none .none (.int (-1) tk)) (h:Q (.ref s.heap.objs.size) { s with heap:=s.heap.push { cls:=.type "tuple",data:=.seq items.toList.reverse.toArray } }) (hsz:items.size<=sizeLine):wpAny (model prog w) A (getItem (.ref t) (.ref sl)) Q E s:=by
 have htake:sizeOk (.seq items.toList.reverse.toArray):=by
  show items.toList.reverse.toArray.size<=sizeLine
  rw [Qk,Zh,Array.length_toList]
  exact hsz
 obtain ⟨os,hos,hcs,hds⟩:=id hs
 have hTs:s.TypeIs (.ref sl) "slice" := ⟨os,hos,hcs⟩
 unfold getItem
 try with_reducible refine wpAny_holding ?_
 first | refine wpAny_bind (wpAny_pure ?_) | skip
 refine wpAny_bind (wpAny_sequenceKey ht.typeIs (by decide) ?_)
 refine wpAny_bind (wpAny_callSpecial?_slot (name:=Str.ofString "__getitem__") ht.typeIs PyProof.Rows.slot_tuple_getitem
  (wpAny_call_entry PyProof.Rows.slot_tuple_getitem ht.typeIs entry_tuple_getitem ?_ (args_tuple_getitem _ _)))
 refine wpAny_bind (m:=Builtin.Tuple.tupleItemsOf (.ref t)) (tupleItemsOf_ ht ?_)
 refine wpAny_bind (wpAny_typeOf hTs ?_)
 rw [if_pos (by decide)]
 refine wpAny_bind (pX hs ?_)
 have hno:¬ ((((items.size:Int) - 1)==0 && (-1:Int)==1 && items.size==items.size)=true):=by simp
 show wpAny _ _ (if (((items.size:Int) - 1)==0 && (-1:Int)==1 && items.size==items.size)=true then _ else _) _ _ s
 rw [if_neg hno,yF]
 first
  | exact wpAny_bind (m:=Builtin.Tuple.tupleExact _) (wpAny_newObj_type (wpAny_pure ⟨_,rfl,wpAny_pure h⟩) htake)
  | exact wpAny_bind (m:=Builtin.Tuple.tupleExact _) (wpAny_newObj_type (wpAny_bind (wpAny_pure (wpAny_pure ⟨_,rfl,wpAny_pure h⟩))) htake)
  | exact wpAny_bind (wpAny_bind (m:=Builtin.Tuple.tupleExact _) (wpAny_newObj_type (wpAny_pure (wpAny_pure ⟨_,rfl,wpAny_pure h⟩)) htake))
  | exact wpAny_bind (wpAny_bind (m:=Builtin.Tuple.tupleExact _) (wpAny_newObj_type (wpAny_pure ⟨_,rfl,wpAny_pure h⟩) htake))
def aFQ (K:PySem.W.Frag) (te ts:TE):TE:=fun σ H Q=>te σ H fun x H1=>ts σ H1 fun y H2=>y=.int (-1)/\∃ a xs,x=.ref a/\SqT K H2 a xs/\∀ p,H2 p=none->Q (.ref p) (upd H2 p (.tup xs.reverse))
theorem aFR {st:Expr} {pos:Pos} (he:PE X e te) (hst:PE X st ts):PE X (.Subscript e (.Slice none none (some st) p2) pos) (aFQ X.K te ts):=by
 intro pins s σ H Q I h
 refine Subscript_ (thn (he pins s σ H _ I h) fun v s1 hx9=>?_)
 obtain ⟨x,H1,I1,r1,q1⟩:=hx9
 refine wpAny_Slice ?_
 rw [evalPart_none]
 refine wpAny_pure ?_
 show wpAny _ _ (evalPart none X.env) _ _ s1
 rw [evalPart_none]
 refine wpAny_pure ?_
 show wpAny _ _ (evalPart (some st) X.env) _ _ s1
 rw [evalPart_some]
 refine thn (hst pins s1 σ H1 _ I1 q1) fun vst s3 hx9=>?_
 obtain ⟨y,H3,I3,r3,q3⟩:=hx9
 obtain ⟨rfl,a,xs,rfl,hx,q⟩:=q3
 obtain ⟨tk,rfl⟩:=r3
 cases r1
 have I4:Inv X pins σ H3 { s3 with heap:=s3.heap.push { cls:=.type "slice",data:=.fields #[.none,.none,.int (-1) tk] } }:=I3.kept (t':=s3.toks) fun b ob q=>Qa _ q
 obtain ⟨its,r,ht,hz⟩:=I4.tuple hx
 have hlen:=r.length
 have hg:wpAny (model X.prog X.w) X.A (getItem (.ref a) (.ref s3.heap.objs.size)) (EP X pins σ Q) X.xe { s3 with heap:=s3.heap.push { cls:=.type "slice",data:=.fields #[.none,.none,.int (-1) tk] } }:=by
  refine oQ ht (Heap.IsSliceOf.new ..) ?_ (by rw [Qk]; omega)
  refine ⟨.ref _,_,I4.laid (t':=s3.toks) (o:=.tup xs.reverse) (fun b ob q=>Qa _ q) (Qg _) ?_,rfl,q _ (I4.hok.fresh (Qg _))⟩
  exact ⟨by rw [Zh]; exact hz,its.reverse,0,r.reverse,Qm _ rfl⟩
 show wpAny (model X.prog X.w) X.A (subscriptTail e (.Slice none none (some st) p2) (.ref a) (.ref s3.heap.objs.size)) (EP X pins σ Q) X.xe { s3 with heap:=s3.heap.push { cls:=.type "slice",data:=.fields #[.none,.none,.int (-1) tk] } }
 exact tail_any (ops:=[.ref a,.ref s3.heap.objs.size]) ht.typeIs PyProof.Rows.slot_tuple_getitem.lookup hg (by with_unfolding_all rfl)
def Vw (S:List Addr) (H:Hp):Hp:=fun b=>if b∈S then none else H b
theorem Vw.out (n:b∉S):Vw S H b=H b:=by unfold Vw; rw [if_neg n]
theorem Vw.sub:aD (Vw S H) H:=fun b o h=>by
 by_cases z:b∈S
 ·unfold Vw at h; rw [if_pos z] at h; cases h
 ·rw [Vw.out z] at h; exact h
theorem Vw.keep (e:∀ b o,b∉S->H b=some o->H' b=some o):aD (Vw S H) (Vw S H'):=fun b o h=>by
 by_cases z:b∈S
 ·unfold Vw at h; rw [if_pos z] at h; cases h
 ·rw [Vw.out z] at h ⊢; exact e b o z h
theorem Vw.same (e:aD H H'):aD (Vw S H) (Vw S H'):=Vw.keep fun b o _ h=>e b o h
def Fx (S:List Addr) (H:Hp):Prop:=∀ b∈S,∃ xs,H b=some (.lst xs)
theorem Fx.same (f:Fx S H) (e:aD H H'):Fx S H':=fun b hb=>let ⟨xs,h⟩:=f b hb; ⟨xs,e b _ h⟩
theorem Fx.new (f:Fx S H) (h:H p=none):p∉S:=fun z=>by
 obtain ⟨xs,q⟩:=f p z
 rw [q] at h; cases h
theorem Fx.nil:Fx [] H:=fun _ h=>(Qq h).elim
section
theorem Fx.seqT (f:Fx S H) (h:SqT K H a xs):SqT K (Vw S H) a xs:=by
 rcases h with (h | ⟨o,h⟩) | h
 ·exact .inl (.inl (by rw [Vw.out fun z=>by obtain ⟨ys,q⟩:=f a z; rw [q] at h; cases h]; exact h))
 ·exact .inl (.inr ⟨o,by rw [Vw.out fun z=>by obtain ⟨ys,q⟩:=f a z; rw [q] at h; cases h]; exact h⟩)
 ·exact .inr h
theorem Vw.at {o:HO} (f:Fx S H) (h:H p=none):Vw S (upd H p o) p=some o:=by rw [Vw.out (f.new h)]; exact aB
def Dn (K:PySem.W.Frag) (S:List Addr) (H:Hp) (x:V):Prop:=∃ d,Den K (Vw S H) d x
def DT (K:PySem.W.Frag) (S:List Addr) (n:Nat) (H:Hp) (x:V):Prop:=∃ a xs,x=.ref a/\SqT K (Vw S H) a xs/\xs.length<=n/\∀ y∈xs,Dn K S H y
def II (_:Hp) (x:V):Prop:=∃ i,x=.int i
class Mo (R:Hp->V->Prop):Prop where
 mo:∀ {H H':Hp} {v:V},aD H H'->R H v->R H' v
theorem Dn.keep {x:V} (h:Dn K S H x) (e:aD (Vw S H) (Vw S H')):Dn K S H' x:=let ⟨d,h⟩:=h; ⟨d,e.den _ _ h⟩
theorem Dn.same {x:V} (h:Dn K S H x) (e:aD H H'):Dn K S H' x:=h.keep (Vw.same e)
theorem DT.keep {x:V} (h:DT K S n H x) (e:aD (Vw S H) (Vw S H')):DT K S n H' x:=let ⟨a,xs,h1,h2,h3,h4⟩:=h; ⟨a,xs,h1,e.seqT h2,h3,fun y hy=>(h4 y hy).keep e⟩
theorem DT.same {x:V} (h:DT K S n H x) (e:aD H H'):DT K S n H' x:=h.keep (Vw.same e)
instance:Mo (Dn K S):=⟨fun e h=>Dn.same h e⟩
instance {n:Nat}:Mo (DT K S n):=⟨fun e h=>DT.same h e⟩
instance:Mo II:=⟨fun _ h=>h⟩
theorem aCJ (i:Int):Dn K S H (.int i):=⟨.int i,bP.mpr rfl⟩
theorem II.dn {x:V} (h:II H x):Dn K S H x:=let ⟨i,h⟩:=h; h ▸ aCJ i
theorem aCK:∀ {xs:List V},(∀ x∈xs,Dn K S H x)->∃ ds,aN K (Vw S H) ds xs
 | [],_=>⟨[],aL.mpr rfl⟩
 | x::r,h=>by
  obtain ⟨d,hd⟩:=h x (Qn ..)
  obtain ⟨ds,hds⟩:=aCK (xs:=r) fun y hy=>h y (Qs _ hy)
  exact ⟨d::ds,aH.mpr ⟨x,r,rfl,hd,hds⟩⟩
theorem DT.dn {x:V} (h:DT K S n H x):Dn K S H x:=by
 obtain ⟨a,xs,rfl,h2,_,h4⟩:=h
 obtain ⟨ds,hds⟩:=aCK h4
 exact ⟨.tuple ds,bB.mpr ⟨a,xs,rfl,h2,hds⟩⟩
theorem aEa:∀ x∈l.map V.int,Dn K S H x:=fun x hx=>by
 obtain ⟨i,_,rfl⟩:=Qz.mp hx
 exact aCJ i
theorem DT.ints (f:Fx S H) (h:SqT K H a (l.map V.int)) (hn:l.length<=n):DT K S n H (.ref a):=⟨a,_,rfl,f.seqT h,by rw [Qb]; exact hn,aEa⟩
def Al (H0:Hp) (S:List Addr) (te:TE) (σ:St) (R:Hp->V->Prop):Prop:=∀ H,aD H0 H->Fx S H->∀ Q:VK,(∀ v H',aD H H'->R H' v->Q v H')->te σ H Q
def AlO (H0:Hp) (S:List Addr) (t:TO) (σ:St):Prop:=∀ H,aD H0 H->Fx S H->∀ Q:Option Int->Hp->Prop,(∀ o H',aD H H'->Q o H')->t σ H Q
variable {σ:St} {R R':Hp->V->Prop} {t:TA} {tl th:TO}
theorem eA {i:Nat} [m:Mo R] (h:σ[i]?=some (some v)) (r:R H0 v):Al H0 S (uH i) σ R:=fun H s _ Q k=>⟨v,h,k v H (aD.refl H) (m.mo s r)⟩
theorem aCL [m:Mo R] (r:R H0 v):Al H0 S (tC v) σ R:=fun H s _ Q k=>k v H (aD.refl H) (m.mo s r)
theorem Al.mono (h:Al H0 S te σ R) (m:∀ H v,R H v->R' H v):Al H0 S te σ R':=fun H s f Q k=>h H s f Q fun v H' s' r=>k v H' s' (m H' v r)
theorem lH {i:Int}:Al H0 S (tC (.int i)) σ II:=aCL ⟨i,rfl⟩
theorem Al.i (h:Al H0 S te σ II):Al H0 S te σ (Dn K S):=h.mono fun _ _ r=>r.dn
theorem Al.d (h:Al H0 S te σ (DT K S n)):Al H0 S te σ (Dn K S):=h.mono fun _ _ r=>r.dn
def aFd (K:PySem.W.Frag):R2:=fun x y H Q=>∃ a b xs ys,x=.ref a/\y=.ref b/\SqT K H a xs/\SqT K H b ys/\xs.length+ys.length<=sizeLine/\∀ p H',aD H H'->SqT K H' p (xs++ys)->Q (.ref p) H'
theorem kN (hK:X.K=K):OpR X (binaryOp .Add) (aFd K):=by subst hK; exact aD8
def aGN (K:PySem.W.Frag):V->Option Int->Option Int->Hp->VK->Prop:=fun x lo hi H Q=>∃ a xs,x=.ref a/\SqT K H a xs/\∀ p H',aD H H'->SqT K H' p (nV xs lo hi)->Q (.ref p) H'
theorem kO (hK:X.K=K):SlR X (aGN K):=by subst hK; exact aD9
def aAT (K:PySem.W.Frag):List V->Hp->VK->Prop:=fun xs H Q=>∃ p ys,xs = [.ref p]/\(SqL K H p ys∨SqT K H p ys)/\∀ l,H l=none->Q (.ref l) (upd H l (.lst ys))
theorem nR (hK:X.K=K):gQ X (.type "list") (aAT K):=by subst hK; exact lF
theorem dM:AlO H0 S aAM σ:=fun H _ _ Q k=>k none H (aD.refl H)
theorem cR (h:Al H0 S te σ II):AlO H0 S (aFc te) σ:=fun H s f Q k=>h H s f _ fun v H' s' ⟨i,e⟩=>⟨i,e,k _ H' s'⟩
theorem wB:Al H0 S (tUn (rU fun i=>.int (-i)) (tC (.int 1))) σ fun _ v=>v=.int (-1):=fun H s f Q k=>⟨1,rfl,k _ H (aD.refl H) rfl⟩
theorem mI {g:Int->Int->Int} (ha:Al H0 S ta σ II) (hb:Al H0 S tb σ II):Al H0 S (tOp (rI0 fun i j=>.int (g i j)) ta tb) σ II:=fun H s f Q k=>ha H s f _ fun v H1 s1 ⟨i,e⟩=>hb H1 (s.trans s1) (f.same s1) _ fun u H2 s2 ⟨j,e'⟩=>⟨i,j,e,e',k _ H2 (s1.trans s2) ⟨_,rfl⟩⟩
instance {a:Addr} {xs:List V}:Mo (fun H v=>v=.ref a/\SqT K H a xs):=⟨fun e h=>⟨h.1,e.seqT h.2⟩⟩
instance {x:V}:Mo (fun _ v=>v=x):=⟨fun _ h=>h⟩
theorem yG {Q:VK} (f:Fx S H) (h:Al H S te σ R) (k:∀ v H',aD H H'->R H' v->Q v H'):te σ H Q:=h H (aD.refl H) f Q k
end
open PySem.AutoSeq1 (wpAny_loadPart')
theorem nf {b:Bool} (h:b=false):decide (b=true)=false:=by rw [h]; rfl
theorem nt {b:Bool} (h:b=true):decide (b=true)=true:=by rw [h]; rfl
theorem sK (l:Addr) (items:Array Value) (n:Nat) (dd:Option Addr) (sl:Array (Option Value)) (x:Int) (u:Tok) (h1:1 < x) (h2:x<=1000) (hne:items.isEmpty=false) (hz:items.size<=1000) :
  Meets (Builtin.«tuple.__mul__» ⟨[.ref l,.int x u],[]⟩) (fun _ R s=>s.heap.get? l=some { cls:=.type "tuple",dict:=dd,data:=.seq items n,slots:=sl }/\R (.ok (.ret (Value.ref s.heap.objs.size))) { s with heap:=s.heap.push { cls:=Value.type "tuple",data:=Data.seq (List.foldl (fun x1 x2=>x1++x2) #[] (List.replicate x.toNat items)) },toks:=s.toks }) :=
 .of_wp fun prog w A R s h=>by
  obtain ⟨hp,g,d,tk,os⟩:=s
  obtain ⟨hl,h⟩:=h
  have f1:=AutoSeq1.idx_int
  have f2:=AutoSeq1.sub_tuple_tuple
  wp_walk using wpAny_loadPart' hl
  refine wpAny_ite_false (nf (show (decide (x < -2^63) || decide (x≥2^63))=false from by rw [decide_eq_false (show ¬ x < -2^63 by omega),decide_eq_false (show ¬ x≥2^63 by omega)]; rfl)) ?_
  wp_walk using wpAny_loadPart' hl
  refine wpAny_ite_false (nf (show (items.isEmpty || x==1)=false from by rw [hne,beq_eq_false_iff_ne.mpr (show x≠1 by omega)]; rfl)) ?_
  wp_walk using wpAny_loadPart' hl
  refine wpAny_ite_false (nf (show (decide (x<=0) || items.isEmpty)=false from by rw [hne,decide_eq_false (show ¬ x<=0 by omega)]; rfl)) ?_
  wp_walk using wpAny_loadPart' hl
  have hm:(items.size:Int)*x<=1000*1000:=Xw (by omega) h2 (by omega) (by omega)
  refine wpAny_ite_false (decide_eq_false (show ¬ (items.size:Int)*x > (2^63 - 1) / 8 by omega)) ?_
  wp_walk using wpAny_loadPart' hl
  refine wpAny_ite_false (nf (show decide ((items.size:Int)*x > (sizeLine:Int))=false from decide_eq_false (by rw [sizeLine_eq]; omega))) ?_
  have hsz:¬ (List.foldl (fun x1 x2=>x1++x2) #[] (List.replicate x.toNat items)).size > sizeLine:=by
   have e:=pU items.toList x.toNat []
   rw [Yb] at e
   have e2:List.foldl (fun x1 x2=>x1++x2) #[] (List.replicate x.toNat items)=(List.replicate x.toNat items.toList).flatten.toArray:=e
   rw [e2,Qk,aAQ,Array.length_toList,sizeLine_eq]
   have:x.toNat*items.size<=1000*1000:=Nat.mul_le_mul (by omega) hz
   omega
  wp_walk using wpAny_loadPart' hl
  exact ⟨_,rfl,h⟩
theorem sL (l:Addr) (items:Array Value) (n:Nat) (dd:Option Addr) (sl:Array (Option Value)) (x:Int) (u:Tok) (h1:1 < x) (h2:x<=1000) (hne:items.isEmpty=true) :
  Meets (Builtin.«tuple.__mul__» ⟨[.ref l,.int x u],[]⟩) (fun _ R s=>s.heap.get? l=some { cls:=.type "tuple",dict:=dd,data:=.seq items n,slots:=sl }/\R (.ok (.ret (Value.ref l))) s) :=
 .of_wp fun prog w A R s h=>by
  obtain ⟨hp,g,d,tk,os⟩:=s
  obtain ⟨hl,h⟩:=h
  have f1:=AutoSeq1.idx_int
  have f2:=AutoSeq1.sub_tuple_tuple
  wp_walk using wpAny_loadPart' hl
  refine wpAny_ite_false (nf (show (decide (x < -2^63) || decide (x≥2^63))=false from by rw [decide_eq_false (show ¬ x < -2^63 by omega),decide_eq_false (show ¬ x≥2^63 by omega)]; rfl)) ?_
  wp_walk using wpAny_loadPart' hl
  exact ⟨_,rfl,h⟩
theorem kP:fillsNumberSlot (.type "tuple") "mul" = pure false :=
 PySem.fillsNumberSlot_seq (id := "tuple.__mul__") (r:=some (.builtin "tuple.__rmul__")) PySem.F.slot_tuple_mul.lookup (by decide +kernel) PySem.F.slot_tuple_rmul.lookup (by decide +kernel)
theorem oR:seqRepeat? (.type "tuple")=pure (some (.builtin "tuple.__mul__")):=by
 unfold seqRepeat?
 rw [PySem.seqSlot_of (T := "tuple") (name := "__mul__") (id := "tuple.__mul__") PySem.F.slot_tuple_mul.lookup (by decide +kernel),PySem.seqSlot_of (T := "tuple") (name := "__rmul__") (id := "tuple.__rmul__") PySem.F.slot_tuple_rmul.lookup (by decide +kernel)]
 rfl
theorem mJ (a:Int) (t:Tok) (l:Addr) (items:Array Value) (n:Nat) (dd:Option Addr) (sl:Array (Option Value)) :
  Meets (Builtin.«int.__rmul__» ⟨[.int a t,.ref l],[]⟩) (fun _ R s=>s.heap.get? l=some { cls:=.type "tuple",dict:=dd,data:=.seq items n,slots:=sl }/\R (.ok (.ret Value.notImplemented)) s) :=
 .of_wp fun prog w A R s h=>by
  obtain ⟨hp,g,d,tk,os⟩:=s
  obtain ⟨hl,h⟩:=h
  wp_walk using wpAny_loadPart' hl
  exact ⟨_,rfl,h⟩
def aGO (K:PySem.W.Frag):R2:=fun x y H Q=>∃ a k xs,x=.ref a/\y=.int k/\SqT K H a xs/\1 < k/\k<=1000/\xs.length<=1000/\∀ p H',aD H H'->SqT K H' p (List.replicate k.toNat xs).flatten->Q (.ref p) H'
theorem aEb (hK:X.K=K):OpR X (binaryOp .Mult) (aGO K):=by
 subst hK
 intro pins s σ H x y v u Q I rx ry h
 obtain ⟨a,k,xs,rfl,rfl,ha,h1,h2,hz,q⟩:=h
 cases rx
 obtain ⟨t,rfl⟩:=ry
 obtain ⟨its,r,⟨⟨cls,dd,data,sl⟩,ho,hc,n,hd⟩,hzz⟩:=I.tuple ha
 simp only at hc hd
 subst hc hd
 have hl:=r.length
 refine wpAny_binaryOp_repeat_ref (T := "tuple") (U := "int") (by decide) ⟨_,ho,rfl⟩ (fun s'=>typeIs_int s' k t) kP PySem.F.fills_int_mul PySem.F.slot_int_rmul oR PySem.F.slot_int_index.lookup
  (call_meets PySem.F.slot_int_rmul (typeIs_int s k t) PySem.F.entry_int_rmul (PySem.F.args_int_rmul_2 _ _) (mJ k t a its.toArray n dd sl) ⟨ho,rfl,⟨_,ho,rfl⟩,?_⟩)
 by_cases hx:xs = []
 ·subst hx
  cases r
  refine call_meets PySem.F.slot_tuple_mul ⟨_,ho,rfl⟩ PySem.F.entry_tuple_mul (PySem.F.args_tuple_mul_2 _ _) (sL a _ n dd sl k t h1 h2 rfl) ⟨ho,?_⟩
  exact ⟨.ref a,H,I,rfl,q a H (aD.refl H) (by rw [List.flatten_replicate_nil]; exact ha)⟩
 ·have hne:its.toArray.isEmpty=false:=by
   cases its with
   | nil=>cases r; exact absurd rfl hx
   | cons _ _=>rfl
  refine call_meets PySem.F.slot_tuple_mul ⟨_,ho,rfl⟩ PySem.F.entry_tuple_mul (PySem.F.args_tuple_mul_2 _ _) (sK a its.toArray n dd sl k t h1 h2 hne (by rw [Qk]; omega)) ⟨ho,?_⟩
  have hnew:List.foldl (fun x1 x2=>x1++x2) #[] (List.replicate k.toNat its.toArray)=(List.replicate k.toNat its).flatten.toArray:=by
   have:=pU its k.toNat []
   rw [Yb] at this
   exact this
  rw [hnew]
  have hlen:(List.replicate k.toNat xs).flatten.length<=sizeLine:=by
   rw [aAQ,sizeLine_eq]
   have:k.toNat*xs.length<=1000*1000:=Nat.mul_le_mul (by omega) hz
   omega
  refine ⟨.ref _,_,I.laid (t':=s.toks) (o:=.tup (List.replicate k.toNat xs).flatten) (fun b ob q=>Qa _ q) (Qg _) ?_,rfl,q _ _ (aD.new (I.hok.fresh (Qg _))) (SqT.of aB)⟩
  exact ⟨hlen,(List.replicate k.toNat its).flatten,0,r.rep k.toNat,Qm _ rfl⟩
section
variable {σ:St}
end
section
variable {E E':Hp->V->Prop}
def DTe (K:PySem.W.Frag) (S:List Addr) (E:Hp->V->Prop) (n:Nat) (H:Hp) (x:V):Prop:=∃ a xs,x=.ref a/\SqT K (Vw S H) a xs/\xs.length<=n/\∀ y∈xs,E H y
def LTe (S:List Addr) (E:Hp->V->Prop) (n:Nat) (H:Hp) (x:V):Prop:=∃ a xs,x=.ref a/\Vw S H a=some (.lst xs)/\xs.length<=n/\∀ y∈xs,E H y
instance {n:Nat} [m:Mo E]:Mo (DTe K S E n):=⟨fun e ⟨a,xs,h1,h2,h3,h4⟩=>⟨a,xs,h1,(Vw.same e).seqT h2,h3,fun y hy=>m.mo e (h4 y hy)⟩⟩
instance {n:Nat} [m:Mo E]:Mo (LTe S E n):=⟨fun e ⟨a,xs,h1,h2,h3,h4⟩=>⟨a,xs,h1,Vw.same e _ _ h2,h3,fun y hy=>m.mo e (h4 y hy)⟩⟩
variable {σ:St} {t:TA} {tl th:TO}
end
section
variable {env:Env} {jF:List Expr} {k:Nat} {pos:Pos} {a b:Expr}
end
def aCM (X:Cx) (scope:Scope) (z0:Str) (C:Addr):Env:={ compEnvC scope (cV X.env scope.names []) C X.env with cells:=(z0,C+1)::cV X.env scope.names [] }
def bY (X:Cx) (scope:Scope) (z0:Str) (N:List Str) (C:Addr) (s0:Shared) (H0:Hp) (fp:List Addr):Cx where
 prog:=X.prog
 w:=X.w
 K:=X.K
 mg:=X.mg
 base:=X.base
 A:=X.A
 N:=N
 s₀:=s0
 H₀:=H0
 env:=aCM X scope z0 C
 outer:=X.stack
 stack:=X.stack
 ex:=fp
 fn:=fun y=>y==z0
 calm:=X.calm
 pn:=[]
 xe:=fun _ _=>False
def nW (sc scope:Scope) (z0:Str) (own:List Str) (frn:List Str):Bool :=
 scope.kind==.function && scope.names.all (fun y=>y.2 !=.cell || y.1==z0) && scope.names.all (fun y=>y.2 !=.local || scope.names.lookup y.1==some .local) &&
 scope.names.all (fun y=>y.2 !=.free || sc.names.lookup y.1==some .cell || sc.names.lookup y.1==some .free) && decide (own++frn).Nodup &&
 frn.all (fun x=>scope.names.lookup x==some .free) && scope.names.lookup z0==some .cell && scope.names.all (fun y=>y.2 !=.free || y.1 !=z0)
structure CompOk1 (X:Cx) (scope:Scope) (z0:Str) (own:List Str) (fr:List Nat) (frn:List Str):Prop where
 ck:nW X.env.scope scope z0 own frn=true
 ix:∀ (k:Nat) (x:Str),frn[k]?=some x->∃ j:Nat,fr[k]?=some j/\X.N[j]?=some x
 len:fr.length=frn.length
 cf:∀ (n:Nat) (cl:List (Str×Addr)),cellsFrom n scope.names cl=(z0,n)::cl
 pc:∀ h:Heap,pushCells h scope.names=h.push { cls:=.type "cell",data:=.cell none }
theorem aEc {globals:Addr} {env:Env} {Q:Env->Shared->Prop} (cf:∀ (n:Nat) (cl:List (Str×Addr)),cellsFrom n scope.names cl=(z0,n)::cl) (pc:∀ h:Heap,pushCells h scope.names=h.push { cls:=.type "cell",data:=.cell none }) (h:Q (newEnv scope s.heap.objs.size globals ((z0,s.heap.objs.size+1)::cl) qual none .none (some env) builtinsNs) { s with heap:=(s.heap.push { cls:=.type "dict",data:=.dict #[] }).push { cls:=.type "cell",data:=.cell none } }) :
  wpAny M A (newFunctionEnv scope globals cl [] qual none .none (some env)) Q E s:=by
 simp only [newFunctionEnv,Wu,if_true]
 refine wpAny_bind (wpAny_alloc ?_)
 refine wpAny_bind (wpAny_layCells _ (fun name kind cells=>by cases hkc:kind==NameKind.cell <;> simp [hkc]) _ _ _ _ ?_)
 rw [cf,pc,show ({ s with heap:=s.heap.push { cls:=.type "dict",data:=.dict #[] } }:Shared).heap.objs.size=s.heap.objs.size+1 from Jl ..]
 rw [Xq]
 exact wpAny_bind (wpAny_pure (wpAny_pure h))
section
variable {fr:List Nat}
theorem CompOk1.parts (S:CompOk1 X scope z0 own fr frn):scope.kind=.function/\(∀ y∈scope.names,y.2=.cell->y.1=z0)/\(∀ y∈scope.names,y.2=.local->scope.names.lookup y.1=some .local) /\
  (∀ y∈scope.names,y.2=.free->X.env.scope.names.lookup y.1=some .cell∨X.env.scope.names.lookup y.1=some .free)/\(own++frn).Nodup/\(∀ x∈frn,scope.names.lookup x=some .free)/\scope.names.lookup z0=some .cell/\∀ y∈scope.names,y.2=.free->y.1≠z0:=by
 have h:=S.ck
 unfold nW at h
 simp only [Jb,Qy,decide_eq_true_eq,Bool.or_eq_true,bne_iff_ne,ne_eq,beq_iff_eq] at h
 obtain ⟨⟨⟨⟨⟨⟨⟨h1,h2⟩,h3⟩,h4⟩,h5⟩,h7⟩,h8⟩,h9⟩:=h
 refine ⟨h1,fun y hy e=>?_,fun y hy e=>?_,fun y hy e=>?_,h5,h7,h8,fun y hy e=>?_⟩
 ·rcases h2 y hy with z | z
  ·exact absurd e z
  ·exact z
 ·rcases h3 y hy with z | z
  ·exact absurd e z
  ·exact z
 ·rcases h4 y hy with (z | z) | z
  ·exact absurd e z
  ·exact .inl z
  ·exact .inr z
 ·rcases h9 y hy with z | z
  ·exact absurd e z
  ·exact z
theorem yH (S:CompOk1 X scope z0 own fr frn) (σ:St):(blk own.length fr σ).length=(own++frn).length:=by
 unfold blk
 rw [Qt,Qt,Xo,Qb,S.len]
theorem sM {c:Addr} (h:((z0,C+1)::cl).lookup x=some c):(x=z0/\c=C+1)∨(x≠z0/\cl.lookup x=some c):=by
 rw [Xg] at h
 cases e:x==z0 with
 | true=>rw [e] at h; exact .inl ⟨by simpa using e,(Option.some.inj h).symm⟩
 | false=>rw [e] at h; exact .inr ⟨by simpa using e,h⟩
theorem yI (h:x≠z0):((z0,C+1)::cl).lookup x=cl.lookup x:=by
 rw [Xg,show (x==z0)=false by simpa using h]
theorem aCN:((z0,C+1)::cl).lookup z0=some (C+1):=by
 rw [Xg,show (z0==z0)=true by simp]
theorem aBK {σ:St} {tk:Nat} {D:Addr} {oD:Obj} {m:Str->Option Value} (I:Inv X pins σ H s) (S:CompOk1 X scope z0 own fr frn) (hfp:∀ b∈fp,hX X pins H b) (hlt:∀ b∈fp,b < s.heap.objs.size) (hC:s.heap.objs.size<=C) (hn:h1.Ns C m) (hk:∀ b o,s.heap.get? b=some o->h1.get? b=some o) (hD:s.heap.objs.size<=D) (hDC:D≠C) (hoD:h1.get? D=some oD) (hdD:∀ v,oD.data≠.cell v) (hcl:h1.IsCell (C+1) none) :
  Inv (bY X scope z0 (own++frn) C s H fp) [(D,oD)] (blk own.length fr σ) H { s with heap:=h1,toks:=tk }:=by
 obtain ⟨p1,p2,p3,p4,p5,p7,p8,p9⟩:=S.parts
 have below:∀ b,b < s.heap.objs.size->b≠C:=fun b hb z=>Qv _ (Ql (z ▸ hb) hC)
 have clsub:∀ x c,(cV X.env scope.names []).lookup x=some c->X.env.cells.lookup x=some c:=fun x c e=>by
  rcases iT _ _ _ _ (eE e) with q | q
  ·cases q
  ·exact q
 have clt:∀ x c,X.env.cells.lookup x=some c->c < s.heap.objs.size:=fun x c e=>by
  obtain ⟨v,q⟩:=I.cell x c e
  exact q.lt
 have nstk:∀ b∈fp,b∉frs X.stack:=fun b hb z=>by
  obtain ⟨_,f1,f2,_⟩:=hfp b hb
  rcases Qj.mp (I.stkSub b z) with e | e
  ·exact f1 e
  ·exact f2 e
 have Dfs:D∉frs X.stack:=fun z=>by
  have q:=I.stkSub D z
  rcases Qj.mp q with e | e
  ·exact Qv _ (Ql (e ▸ I.lt:D < _) hD)
  ·exact I.nofs hD e
 refine ⟨⟨I.ok.mod,p1,I.ok.glob,I.ok.blt,hC,fun x y c e1 e2=>?inj,fun x hx=>?has,fun x c e e2=>?cab,I.ok.hd,I.ok.frames,.inl rfl,fun b hb=>?exf,I.bs,Qu I.ok.bsz I.sz,fun b o e hb=>?noex,nstk,I.stack,I.stkFree⟩,
  rfl,I.bare,Un.kept hk,⟨m,hn,fun i x v e1 e2 e3=>?loc⟩,fun x c e=>?cell,I.hok.fresh hC,fun x c e=>?freeC,fun p hp=>?pin,I.hok.kept hk,yH S σ⟩
 case inj =>
  have e1':((z0,C+1)::cV X.env scope.names []).lookup x=some c:=e1
  have e2':((z0,C+1)::cV X.env scope.names []).lookup y=some c:=e2
  rcases sM e1' with ⟨rfl,rfl⟩ | ⟨n1,q1⟩ <;> rcases sM e2' with ⟨rfl,e⟩ | ⟨n2,q2⟩
  ·rfl
  ·exact absurd (clt _ _ (clsub _ _ q2)) (Nat.not_lt.mpr (Zc hC))
  ·subst e
   exact absurd (clt _ _ (clsub _ _ q1)) (Nat.not_lt.mpr (Zc hC))
  ·exact I.ok.inj x y c (clsub x c q1) (clsub y c q2)
 case has =>
  have hx':(relabel scope X.env).names.lookup x=some .cell∨(relabel scope X.env).names.lookup x=some .free:=hx
  show ∃ c,((z0,C+1)::cV X.env scope.names []).lookup x=some c
  by_cases hz:x=z0
  ·rw [hz,aCN]
   exact ⟨_,rfl⟩
  ·rw [yI hz]
   have hl:(relabel scope X.env).names.lookup x=_:=gE (env:=X.env) x scope.names
   rw [hl] at hx'
   cases e:scope.names.lookup x with
   | none =>
    rw [e] at hx'
    rcases hx' with z | z <;> cases z
   | some k =>
    have hmem:=eE e
    have hkf:k=.free:=by
     rw [e] at hx'
     simp only [Xj,Option.some.injEq] at hx'
     by_cases c:(k==NameKind.free && X.env.scope.kind==.function && X.env.kindOf x==some .cell)=true
     ·simp only [Jb,beq_iff_eq] at c
      exact c.1.1
     ·rw [if_neg c] at hx'
      rcases hx' with z | z
      ·exact absurd (p2 _ hmem z) hz
      ·exact z
    subst hkf
    obtain ⟨c,hc⟩:=I.ok.has x (p4 _ hmem rfl)
    obtain ⟨c',hc'⟩:=jO (env:=X.env) scope.names [] x (.inr ⟨hmem,c,hc⟩)
    exact iU hc'
 case cab =>
  have e':(x==z0)=true:=e
  have e2':((z0,C+1)::cV X.env scope.names []).lookup x=some c:=e2
  rcases sM e2' with ⟨_,rfl⟩ | ⟨n1,_⟩
  ·exact Zc hC
  ·exact absurd (by simpa using e') n1
 case exf =>
  refine ⟨below b (hlt b hb),fun x c e=>?_⟩
  have e':((z0,C+1)::cV X.env scope.names []).lookup x=some c:=e
  rcases sM e' with ⟨_,rfl⟩ | ⟨_,q⟩
  ·exact fun z=>Qv _ (Ql (hlt b hb) (by rw [<- z]; exact Zc hC))
  ·exact (hfp b hb).2.2.2.2.1 x c (clsub x c q)
 case noex =>
  rcases (hfp b hb).2.2.2.1 with z | z
  ·exact I.ok.noex b o e z
  ·exact absurd (Ql (Qo (I.ok.bs b o e).1) z) (Qv _)
 case loc =>
  show ∃ u,bI v u/\aFr _ _ _ x u
  have e1':(own++frn)[i]?=some x:=e1
  have e2':(blk own.length fr σ)[i]?=some (some v):=e2
  unfold blk at e2'
  by_cases hi:i < own.length
  ·rw [Ji (by simpa using hi),Xu] at e2'
   rw [if_pos hi] at e2'
   cases e2'
  ·rw [Jm (by simpa using hi)] at e2'
   rw [Jm (by omega)] at e1'
   rw [Xo,Qh] at e2'
   obtain ⟨j,hj1,hj2⟩:=S.ix _ _ e1'
   rw [hj1] at e2'
   simp only [Xj,Option.some.injEq] at e2'
   have hσ:σ[j]?=some (some v):=by
    cases q:σ[j]? with
    | none=>rw [q] at e2'; cases e2'
    | some w=>rw [q] at e2'; exact congrArg some e2'
   have hfree:=p7 x (Qe e1')
   have hmem:=eE hfree
   have hxz:x≠z0:=p9 _ hmem rfl
   have kx:=p4 _ hmem rfl
   have vis:Vis X.env.scope x:=by
    rcases kx with z | z
    ·exact .inr (.inl z)
    ·exact .inr (.inr z)
   obtain ⟨m0,hn0,hl0⟩:=I.loc
   obtain ⟨u,ru,lk⟩:=hl0 j x v hj2 hσ vis
   refine ⟨u,ru,.inr ⟨?_,?_⟩⟩
   ·show (relabel scope X.env).names.lookup x=some .cell∨(relabel scope X.env).names.lookup x=some .free
    have hl:(relabel scope X.env).names.lookup x=_:=gE (env:=X.env) x scope.names
    rw [hl,hfree]
    simp only [Xj,Option.some.injEq]
    by_cases c:(NameKind.free==NameKind.free && X.env.scope.kind==.function && X.env.kindOf x==some .cell)=true
    ·rw [if_pos c]; exact .inl rfl
    ·rw [if_neg c]; exact .inr rfl
   ·rcases lk with ⟨kl,_⟩ | ⟨_,c,hc,hcell⟩
    ·have kl':X.env.scope.names.lookup x=some .local:=kl
     rcases kx with z | z <;> (have z':X.env.scope.names.lookup x=_:=z; rw [kl'] at z'; cases z')
    ·obtain ⟨c',hc'⟩:=jO (env:=X.env) scope.names [] x (.inr ⟨hmem,c,hc⟩)
     obtain ⟨c2,hc2⟩:=iU hc'
     have ec:c2=c:=by
      have:=clsub x c2 hc2
      rw [hc] at this
      exact (Option.some.inj this).symm
     subst ec
     obtain ⟨oc,ho,hd⟩:=hcell
     exact ⟨c2,(yI hxz).trans hc2,oc,hk _ _ ho,hd⟩
 case cell =>
  have e':((z0,C+1)::cV X.env scope.names []).lookup x=some c:=e
  rcases sM e' with ⟨_,rfl⟩ | ⟨_,q⟩
  ·exact ⟨none,hcl⟩
  ·obtain ⟨v,o,ho,hd⟩:=I.cell x c (clsub x c q)
   exact ⟨v,o,hk _ _ ho,hd⟩
 case freeC =>
  have e':((z0,C+1)::cV X.env scope.names []).lookup x=some c:=e
  rcases sM e' with ⟨_,rfl⟩ | ⟨_,q⟩
  ·exact I.hok.fresh (Zc hC)
  ·exact I.freeC x c (clsub x c q)
 case pin =>
  have hp':p∈([]:List (Addr×Obj))++[(D,oD)]:=hp
  simp only [Yb,Qi] at hp'
  subst hp'
  exact ⟨hoD,I.hok.fresh hD,hDC,Dfs,hdD⟩
end
section
variable {fr:List Nat} {pos:Pos} {wi:TI}
theorem qX {σ:St} {Q:Hp->List V->Prop} (S:CompOk1 X scope z0 own fr frn) (hc:X.calm=true) (I2:Inv X pins σ H2 s2) (T:Turn X.prog X.w X.K tg J fp it tn) (st2:tn 0 s2.heap) (f2:∀ b∈fp,hX X pins H2 b) (hg:∀ C s0 H0 fp,PG (bY X scope z0 (own++frn) C s0 H0 fp) tg g) (ht:∀ C s0 H0 fp,PF (bY X scope z0 (own++frn) C s0 H0 fp) ifs tt) (he:∀ C s0 H0 fp,PE (bY X scope z0 (own++frn) C s0 H0 fp) elt te) (w:∃ W:Nat->Nat->List V->St->Hp->Prop,(∃ m,W 0 m [] (blk own.length fr σ) H2)/\∀ i m ys σ' H,W i m ys σ' H ->
   (J.stop i H/\Q H ys) ∨
   (J.go i H/\∃ N:List V->St->Hp->Prop,(∀ ys' σ2 H2,N ys' σ2 H2->∃ m',m' < m/\W (i+1) m' ys' σ2 H2) /\
    ∀ x H',J.yld i H x H'->g x σ' H' fun σ2 H2=>tt σ2 H2 fun b H3=>if b=true then te σ2 H3 fun y H4=>ys.length < sizeLine/\N (ys++[y]) σ2 H4 else N ys σ2 H3)) (hRR:∀ (C D:Addr) (s':Shared) (H':Hp) (ys:List V) (its:Array Value) (m:Str->Option Value),s2.heap.objs.size<=C->s2.heap.objs.size<=D->D≠C->s'.heap.Ns C m->H' C=none->H' D=none->s'.heap.PlainList D its->bJ ys its.toList->ys.length<=sizeLine ->
   Inv X pins σ H' s'->Q H' ys->RR (.ref D) C (.ok .next) s') :
  wpAny (model X.prog X.w) X.A (newList []) (fun acc s₃=>wpAny (model X.prog X.w) X.A (newFunctionEnv scope X.env.globals (cV X.env scope.names []) [] X.env.qual none .none (some X.env)) (fun cenv s₄ =>
   codeAny (model X.prog X.w) X.A (.compStart (.ListComp elt [⟨tg,iter,ifs,0⟩] scope pos) 0 (.ref it) acc { cenv with scope:=relabel scope X.env }) (RR acc cenv.locals) s₄) E s₃) E s2:=by
 obtain ⟨p1,p2,p3,p4,p5,p7,p8,p9⟩:=S.parts
 obtain ⟨W,⟨m0,w0⟩,turn⟩:=w
 refine wpAny_newObj_type (aEc S.cf S.pc ?_)
 dsimp only
 generalize hH2:s2.heap.push { cls:=.type "list",dict:=none,data:=.seq ([]:List Value).toArray }=HD
 generalize hh1:(HD.push { cls:=.type "dict",data:=.dict #[] }).push { cls:=.type "cell",data:=.cell none }=h₁
 have hCs:HD.objs.size=s2.heap.objs.size+1:=by rw [<- hH2,Jl]
 have hns₁:h₁.Ns HD.objs.size (fun _=>none):=by rw [<- hh1]; exact (Heap.Ns.new HD (.type "dict")).push _
 have hcell:h₁.IsCell (HD.objs.size+1) none:=by
  rw [<- hh1]
  refine ⟨{ cls:=.type "cell",data:=.cell none },?_,rfl⟩
  have e:=Qm (HD.push { cls:=.type "dict",data:=.dict #[] }) (o:={ cls:=.type "cell",data:=.cell none }) rfl
  rw [Jl] at e
  exact e
 have hDC:s2.heap.objs.size≠HD.objs.size:=by omega
 have hCle:s2.heap.objs.size<=HD.objs.size:=by omega
 have below:∀ b,b < s2.heap.objs.size->b≠HD.objs.size/\b≠s2.heap.objs.size:=fun b hb=>⟨by omega,by omega⟩
 have old:∀ b o,s2.heap.get? b=some o->h₁.get? b=some o:=fun b o e=>by rw [<- hh1]; exact Qa _ (Qa _ (hH2 ▸ Qa _ e))
 have hacc:h₁.get? s2.heap.objs.size=some { cls:=.type "list",data:=.seq ([]:List Value).toArray }:=by rw [<- hh1]; exact Qa _ (Qa _ (hH2 ▸ Qm _ rfl))
 have flt:∀ b∈fp,b < s2.heap.objs.size:=fun b hb=>by
  obtain ⟨o,e,_⟩:=T.obj _ _ st2 b hb
  exact Qo e
 generalize hDg:s2.heap.objs.size=D at *
 generalize hCg:HD.objs.size=C at *
 have st3:tn 0 h₁:=T.keep _ _ _ st2 fun b _ o e=>old b o e
 -- facts of the block
 have clsub:∀ x c,(cV X.env scope.names []).lookup x=some c->X.env.cells.lookup x=some c:=fun x c e=>by
  rcases iT _ _ _ _ (eE e) with q | q
  ·cases q
  ·exact q
 have hcs:∀ x c,((z0,C+1)::cV X.env scope.names []).lookup x=some c->c=C+1∨X.env.cells.lookup x=some c:=fun x c e=>by
  rcases sM e with ⟨_,e⟩ | ⟨_,e⟩
  ·exact .inl e
  ·exact .inr (clsub x c e)
 have cD:∀ x c,((z0,C+1)::cV X.env scope.names []).lookup x=some c->c≠D:=fun x c e z=>by
  rcases hcs x c e with e | e
  ·omega
  obtain ⟨v,q⟩:=I2.cell x c e
  exact Qv _ (Ql q.lt (by rw [hDg,z]; exact Qg _))
 have loop:∀ s₃:Shared,s₃={ s2 with heap:=h₁,toks:=s2.toks } ->
   codeAny (model X.prog X.w) X.A (.compLoop (.ListComp elt [⟨tg,iter,ifs,0⟩] scope pos) 0 (.ref it) (.ref D) (aCM X scope z0 C)) (RR (.ref D) C) s₃:=by
  rintro s₃ rfl
  have I3:Inv (bY X scope z0 (own++frn) C s2 H2 fp) [(D,_)] (blk own.length fr σ) H2 { s2 with heap:=h₁,toks:=s2.toks } :=
   aBK (m:=fun _=>none) I2 S f2 (by rw [hDg]; exact flt) (by rw [hDg]; exact hCle) (hns₁:h₁.Ns C _) old (by rw [hDg]; exact Qg _) hDC hacc (fun v z=>by cases z) hcell
  have stat:∀ {H':Hp} {pl:List (Addr×Obj)},(∀ p∈pl,p.1=D)->(∀ b∈fp,H' b=none)->∀ b∈fp,hX (bY X scope z0 (own++frn) C s2 H2 fp) pl H' b:=fun {H' pl} hpl hn b hb=>by
   refine ⟨hn b hb,(below b (flt b hb)).1,fun z=>?_,.inl hb,fun x c e=>(by
    rcases hcs x c e with e | e
    ·exact fun z=>Qv _ (Ql (flt b hb) (by rw [<- z,e]; exact Zc hCle))
    ·exact (f2 b hb).2.2.2.2.1 x c e),fun p hp=>?_⟩
   ·have z':b∈frs X.stack:=z
    rcases Qj.mp (I2.stkSub b z') with e | e
    ·exact (f2 b hb).2.1 e
    ·exact (f2 b hb).2.2.1 e
   ·have hp':p∈pl:=by simpa [bY] using hp
    rw [hpl p hp']
    exact Ne.symm (below b (flt b hb)).2
  refine qT (env:=aCM X scope z0 C) (fun n s'=>∃ i σ' H' ys its o,Inv (bY X scope z0 (own++frn) C s2 H2 fp) [(D,o)] σ' H' s'/\s'.heap.PlainList D its/\bJ ys its.toList/\ys.length<=sizeLine/\tn i s'.heap/\(∀ b∈fp,H' b=none)/\W i n ys σ' H') ?_ m0
   ⟨0,_,H2,[],#[],_,I3,⟨_,hacc⟩,.nil,Jj _,st3,fun b hb=>(f2 b hb).1,w0⟩
  rintro n s5 ⟨i,σ5,H5,ys,its,o,I5,pl5,v5,z5,st5,fr5,w5⟩
  have one:∀ {o:Obj},∀ p∈[(D,o)],p.1=D:=fun p hp=>by
   have e:=Qi.mp hp
   rw [e]
  rcases turn i n ys σ5 H5 w5 with ⟨stop,qn⟩ | ⟨go,N,hN,step⟩
  ·refine wpAny_mono (T.done (bY X scope z0 (own++frn) C s2 H2 fp) rfl rfl rfl hc i _ s5 σ5 H5 (fun _ _=>False) I5 (stat one fr5) st5 stop) (fun r s6 hx9=>?_) fun _ _ z=>z
   obtain ⟨hr,I6⟩:=hx9
   subst hr
   obtain ⟨m6,hn6,_⟩:=I6.loc
   have p6:=I6.pin (D,o) (by simp [bY])
   have p5':=I5.pin (D,o) (by simp [bY])
   have pl6:s6.heap.PlainList D its:=by
    obtain ⟨k,e⟩:=pl5
    have e1:o=_:=Option.some.inj (p5'.1.symm.trans e)
    exact ⟨k,by rw [p6.1]; exact congrArg some e1⟩
   have IX:Inv X pins σ H5 s6:=I2.call' (ch:=fp) I6.os I6.base I6.hok I6.bare fun b hb=>⟨(f2 b hb).2.2.2.1,(f2 b hb).2.1,(f2 b hb).2.2.2.2.1,(f2 b hb).2.2.2.2.2⟩
   exact hRR C D s6 H5 ys its m6 hCle (Qg _) hDC hn6 I6.free p6.2.1 pl6 v5 z5 IX qn
  ·refine wpAny_mono (T.item (bY X scope z0 (own++frn) C s2 H2 fp) rfl rfl rfl hc i _ s5 σ5 H5 (fun _ _=>False) I5 (stat one fr5) st5 go) (fun r s6 hx9=>?_) fun _ _ z=>z
   obtain ⟨u,hr,h6⟩:=hx9
   subst hr
   refine wpAny_mono h6 (fun _ s7 hx9=>?_) fun _ _ z=>z
   obtain ⟨x,H7,I7,r7,y7,st7,fr7⟩:=hx9
   have I7':=I7.pinned (stat one fr7) (T.obj _ _ st7)
   refine wpAny_mono (hg C s2 H2 fp _ s7 σ5 H7 x u _ I7' r7 (step x H7 y7)) (fun _ s8 hx9=>?_) fun _ _ z=>z
   obtain ⟨σ8,H8,I8,q8⟩:=hx9
   refine wpAny_mono (ht C s2 H2 fp _ s8 σ8 H8 _ I8 q8) (fun b s9 hx9=>?_) fun _ _ z=>z
   obtain ⟨H9,I9,q9⟩:=hx9
   -- what stands of the iterator and of the gathered list behind the tests,behind the item
   have keepT:∀ {H':Hp} {s':Shared} {σ':St},Inv (bY X scope z0 (own++frn) C s2 H2 fp) ([(D,o)]++mB fp s7.heap) σ' H' s'->tn (i+1) s'.heap/\(∀ b∈fp,H' b=none)/\s'.heap.PlainList D its/\H' D=none:=fun {H' s' σ'} I'=>by
    refine ⟨T.keep _ _ _ st7 fun b hb o e=>(I'.pin (b,o) (Qp _ (Qp _ (eI hb e)))).1,fun b hb=>?_,?_,?_⟩
    ·obtain ⟨o,e,d⟩:=T.obj _ _ st7 b hb
     exact (I'.pin (b,o) (Qp _ (Qp _ (eI hb e)))).2.1
    ·have p':=I'.pin (D,o) (by simp [bY])
     have p5':=I5.pin (D,o) (by simp [bY])
     obtain ⟨k,e⟩:=pl5
     have e1:o=_:=Option.some.inj (p5'.1.symm.trans e)
     exact ⟨k,by rw [p'.1]; exact congrArg some e1⟩
    ·exact (I'.pin (D,o) (by simp [bY])).2.1
   cases b with
   | false =>
    rw [if_neg Qx] at q9
    rw [if_neg Qx]
    obtain ⟨m',hm,w'⟩:=hN ys σ8 H9 q9
    obtain ⟨t9,fr9,pl9,_⟩:=keepT I9
    exact ⟨m',hm,i+1,σ8,H9,ys,its,o,I9.unpinned,pl9,v5,z5,t9,fr9,w'⟩
   | true =>
    rw [if_pos rfl] at q9
    rw [if_pos rfl]
    refine wpAny_mono (he C s2 H2 fp _ s9 σ8 H9 _ I9 q9) (fun y s10 hx9=>?_) fun _ _ z=>z
    obtain ⟨yv,H10,I10,r10,lt10,q10⟩:=hx9
    obtain ⟨t10,fr10,pl10,hD10⟩:=keepT I10
    have hl:=v5.length
    refine wpAny_list_append_plain pl10 (fun h11 pl11 sb11=>?_) (by rw [<- Array.length_toList,<- hl]; exact Ze lt10)
    obtain ⟨m',hm,w'⟩:=hN _ σ8 H10 q10
    have I10':Inv (bY X scope z0 (own++frn) C s2 H2 fp) [] σ8 H10 s10:=I10.pins_of fun p hp=>by cases hp
    have I11:Inv (bY X scope z0 (own++frn) C s2 H2 fp) [] σ8 H10 { s10 with heap:=h11 } :=
     I10'.turned (t':=s10.toks) (it:=D) (fun b o hb e=>(sb11.2 b hb).trans e) hD10 hDC (.inr (by show s2.heap.objs.size<=D; rw [hDg]; exact Qg _)) cD (fun p hp=>by simp [bY] at hp)
    obtain ⟨k11,e11⟩:=id pl11
    have DfsX:D∉frs X.stack:=fun z=>by
     rcases Qj.mp (I2.stkSub D z) with e | e
     ·exact Qv _ (Ql I2.lt (by rw [hDg,e]; exact Qg _))
     ·exact I2.nofs (by rw [hDg]; exact Qg _) e
    refine ⟨m',hm,i+1,σ8,H10,ys++[yv],its.push y,{ cls:=.type "list",data:=.seq (its.push y) k11 },I11.pins_of fun p hp=>?_,pl11,?_,by rw [Qt]; show ys.length+1<=_; omega,T.keep _ _ _ t10 fun b hb o e=>(sb11.2 b (below b (flt b hb)).2).trans e,fr10,w'⟩
    ·have e:=Qi.mp hp
     subst e
     exact ⟨e11,hD10,hDC,DfsX,fun v z=>by cases z⟩
    ·rw [Array.toList_push]
     exact v5.append (.cons r10 .nil)
 exact codeAny_compStart_list (loop _ rfl) (T.self X.A 0 _ _ _ st3 (loop _ rfl))
theorem CompOk1.clo {σ:St} (S:CompOk1 X scope z0 own fr frn) (I:Inv X pins σ H s):closureFor scope X.env=pure (cV X.env scope.names []):=by
 obtain ⟨p1,p2,p3,p4,p5,p7,p8,p9⟩:=S.parts
 exact aCB fun y hy e=>I.ok.has y.1 (p4 y hy e)
theorem sN (S:CompOk1 X scope z0 own fr frn) (hc:X.calm=true) (hi:PI X tg iter wi) (hg:∀ C s0 H0 fp,PG (bY X scope z0 (own++frn) C s0 H0 fp) tg g) (ht:∀ C s0 H0 fp,PF (bY X scope z0 (own++frn) C s0 H0 fp) ifs tt)
  (he:∀ C s0 H0 fp,PE (bY X scope z0 (own++frn) C s0 H0 fp) elt te) (hs:∀ x,foldedSetIterable iter X.env x=pure x:=by intro _; rfl) :
  PE X (.ListComp elt [⟨tg,iter,ifs,0⟩] scope pos) (aAR own.length fr wi g tt te):=by
 intro pins s σ H Q I h
 obtain ⟨p1,p2,p3,p4,p5,p7,p8,p9⟩:=S.parts
 rw [eval_ListComp]
 refine wpAny_comprehension_free (use:=none) rfl hs (S.clo I) p1 p3 (thn (hi pins s σ H _ I h) fun v s1 h1=>thn h1 fun itv s2 h2=>?_)
 obtain ⟨it,fp,tn,J,H2,e,I2,T,st2,f2,hw⟩:=h2
 subst e
 refine qX (RR:=fun acc C=>compPost (model X.prog X.w) X.A X.xe none (EP X pins σ Q) acc C) (Q:=fun H ys=>∀ p,H p=none->Q (.ref p) (upd H p (.lst ys))) S hc I2 T st2 f2 hg ht he hw ?_
 intro C D s' H' ys its m hC hD hDC hns hHC hHD pl v z IX q
 have cne:∀ a,s2.heap.objs.size<=a->∀ x c,X.env.cells.lookup x=some c->c≠a:=fun a ha x c e z=>by
  obtain ⟨v,w⟩:=I2.cell x c e
  exact Qv _ (Ql w.lt (by rw [z]; exact ha))
 have pne:∀ a,s2.heap.objs.size<=a->∀ p∈X.pn++pins,p.1≠a:=fun a ha p hp z=>Qv _ (Ql (Qo (I2.pin p hp).1) (by rw [z]; exact ha))
 have lne:∀ a,s2.heap.objs.size<=a->a≠X.env.locals:=fun a ha z=>Qv _ (Ql I2.lt (by rw [<- z]; exact ha))
 refine ⟨m,hns,fun h' hs'=>⟨.ref D,upd H' D (.lst ys),?_,rfl,q D hHD⟩⟩
 have IT:Inv X pins σ (upd H' D (.lst ys)) s':=IX.track pl v z hHD (lne D hD) (Qu I2.sz hD) (cne D hD) (pne D hD)
 exact IT.turned (t':=s'.toks) (it:=C) (fun b o hb e=>(hs'.2 b hb).trans e) (by rw [aK (Ne.symm hDC)]; exact hHC) (lne C hC) (.inr (Qu I2.sz hC)) (cne C hC) (pne C hC)
theorem yJ {i:Nat} {y:Str} {spos:Pos} (S:CompOk1 X scope z0 own fr frn) (hc:X.calm=true) (hN:X.N.Nodup) (hyi:X.N[i]?=some y) (hx:X.env.scope.names.lookup y=some .local) (hsw:swapsWith (.ListComp elt [⟨tg,iter,ifs,0⟩] scope pos) (some (.Name y py)) spos.line X.env=pure true) (hi:PI X tg iter wi) (hg:∀ C s0 H0 fp,PG (bY X scope z0 (own++frn) C s0 H0 fp) tg g) (ht:∀ C s0 H0 fp,PF (bY X scope z0 (own++frn) C s0 H0 fp) ifs tt) (he:∀ C s0 H0 fp,PE (bY X scope z0 (own++frn) C s0 H0 fp) elt te) (hs:∀ x,foldedSetIterable iter X.env x=pure x:=by intro _; rfl) :
  PS X (.Assign [.Name y py] (.ListComp elt [⟨tg,iter,ifs,0⟩] scope pos) spos) (aCt (aAR own.length fr wi g tt te) (cH i)):=by
 intro pins s σ H D I h
 obtain ⟨p1,p2,p3,p4,p5,p7,p8,p9⟩:=S.parts
 rw [exec_Assign_Name_used _ _ _ _ hsw]
 refine wpAny_bind (wpAny_standAt (wpAny_bind ?_))
 show wpAny _ X.A (do let _<-comprehension (.ListComp elt [⟨tg,iter,ifs,0⟩] scope pos) scope X.env _ (newList []) false (eval iter X.env) (some (assign (.Name y py) X.env))) _ _ s
 refine wpAny_bind (wpAny_mono (wpAny_comprehension_free (use:=some (assign (.Name y py) X.env)) (Q:=fun _ s'=>SP X pins D .next s') rfl hs (S.clo I) p1 p3 (thn (hi pins s σ H _ I h) fun v s1 h1=>thn h1 fun itv s2 h2=>?_))
  (fun _ s' hq=>wpAny_pure (wpAny_pure hq)) fun _ _ e=>e)
 obtain ⟨it,fp,tn,J,H2,e,I2,T,st2,f2,hw⟩:=h2
 subst e
 refine qX (RR:=fun acc C=>compPost (model X.prog X.w) X.A X.xe (some (assign (.Name y py) X.env)) (fun _ s'=>SP X pins D .next s') acc C) (Q:=fun H ys=>∀ p,H p=none->D.nx (σ.set i (some (.ref p))) (upd H p (.lst ys))) S hc I2 T st2 f2 hg ht he hw ?_
 intro C L s' H' ys its m hC hL hLC hns hHC hHL pl v z IX q
 have cne:∀ a,s2.heap.objs.size<=a->∀ x c,X.env.cells.lookup x=some c->c≠a:=fun a ha x c e z=>by
  obtain ⟨v,w⟩:=I2.cell x c e
  exact Qv _ (Ql w.lt (by rw [z]; exact ha))
 have pne:∀ a,s2.heap.objs.size<=a->∀ p∈X.pn++pins,p.1≠a:=fun a ha p hp z=>Qv _ (Ql (Qo (I2.pin p hp).1) (by rw [z]; exact ha))
 have lne:∀ a,s2.heap.objs.size<=a->a≠X.env.locals:=fun a ha z=>Qv _ (Ql I2.lt (by rw [<- z]; exact ha))
 have IT:Inv X pins σ (upd H' L (.lst ys)) s':=IX.track pl v z hHL (lne L hL) (Qu I2.sz hL) (cne L hL) (pne L hL)
 show wpAny _ _ (assign (.Name y py) X.env (.ref L)) _ _ s'
 refine wpAny_assign_Name (pS IT hN hyi (.inl hx) (v:=.ref L) rfl (fun s'' I'' hch=>?_) (.inr hx))
 obtain ⟨a,sb,ha⟩:=hch
 have hCa:C≠a:=by
  rcases ha with e | e
  ·rw [e]; exact lne C hC
  ·exact Ne.symm (cne C hC y a e)
 refine ⟨m,hns.sameBut sb hCa,fun h' hs'=>⟨σ.set i (some (.ref L)),upd H' L (.lst ys),?_,q L hHL⟩⟩
 exact I''.turned (t':=s''.toks) (it:=C) (fun b o hb e=>(hs'.2 b hb).trans e) (by rw [aK (Ne.symm hLC)]; exact hHC) (lne C hC) (.inr (Qu I2.sz hC)) (cne C hC) (pne C hC)
end
theorem lI {fr:List Nat} (sc:Scope) (N:List Str) (h1:X.env.scope=sc) (h2:X.N=N) (cf:∀ (n:Nat) (cl:List (Str×Addr)),cellsFrom n scope.names cl=(z0,n)::cl) (pc:∀ h:Heap,pushCells h scope.names=h.push { cls:=.type "cell",data:=.cell none }) (h:(nW sc scope z0 own frn && rK N frn fr)=true):CompOk1 X scope z0 own fr frn:=by
 rw [Jb] at h
 obtain ⟨ha,hb⟩:=h
 unfold rK at hb
 simp only [Jb,beq_iff_eq,Qy] at hb
 refine ⟨by rw [h1]; exact ha,fun k x hk=>?_,hb.1.symm,cf,pc⟩
 have hlt:k < fr.length:=by rw [<- hb.1]; exact (Qd.mp hk).1
 refine ⟨fr[k],Qc hlt,?_⟩
 have hm:(x,fr[k])∈frn.zip fr:=by
  refine Qe (i:=k) ?_
  rw [Zu]
  exact ⟨hk,Qc hlt⟩
 rw [h2]
 exact hb.2 _ hm
def aCO (scope sc:Scope):Scope:={ scope with names:=scope.names.map fun (n,k)=>if (k==NameKind.free && sc.kind==.function && sc.names.lookup n==some .cell) then (n,NameKind.cell) else (n,k) }
theorem aBL (hc:X.calm=true):gQ X (.builtin "min") (fun xs H Q=>∃ (p:Addr) (ns:List Int),xs = [.ref p]/\SqL X.K H p (ns.map V.int)/\0 < ns.length/\∀ M,M∈ns->(∀ a∈ns,M<=a)->Q (.int M) H):=by
 intro pins s σ H xs us Q I r h
 obtain ⟨p,ns,rfl,hx,hne,q⟩:=h
 obtain ⟨u,rfl,rx⟩:=kJ r
 cases rx
 obtain ⟨its,rv,pl,hz⟩:=I.list hx
 have hi:IntsAre its ns:=aAg rv
 obtain ⟨xs,e⟩:=hi.allInts.items
 have hns:ns=xs.toList.map (·.1):=by
  rw [<- hi.numsOf,<- nums_intItems,<- e]
 have hsz:0 < xs.size:=by
  have h3:=hne; rw [hns,Qb,Array.length_toList] at h3; exact h3
 have hl:=pl.isList
 rw [e] at hl
 refine min_intList (I.ok.hd hc) hl hsz fun v h' tk hv hk=>?_
 obtain ⟨t,rfl⟩:=intItems_at hv
 obtain ⟨h1,h2⟩:=argBest_lt (numAt xs) (xs.size - 1)
 refine ⟨.int _,H,I.kept hk,⟨_,rfl⟩,q _ ?_ fun a ha=>?_⟩
 ·rw [hns,numAt_eq]; exact getD_mem (by rw [Qb,Array.length_toList]; omega)
 ·rw [hns] at ha
  obtain ⟨j,hj,rfl⟩:=mem_getD ha
  rw [Qb,Array.length_toList] at hj
  rw [<- numAt_eq]; exact h2 j (by omega)
theorem aFe:bootBuiltins "min" = some (.builtin "min"):=by decide +kernel
theorem aAU {tb:TS} {σ:St} (Pv:Nat->St->Hp->Prop) (heq:xs.length=ys.length) (h0:Pv 0 σ H) (hl:∀ i σ H,i<=xs.length->Pv i σ H->SqK k1 K H a xs/\SqK k2 K H b ys) (hs:∀ i x y p σ H,xs[i]?=some x->ys[i]?=some y->Pv i σ H->H p=none->g (.ref p) σ (upd H p (.tup [x,y])) fun σ2 H2=>tb { D with nx:=Pv (i+1),ct:=Pv (i+1),bk:=D.nx } σ2 H2) (hd:∀ σ H,Pv xs.length σ H->D.nx σ H) :
  ∃ W:Nat->Nat->St->Hp->Prop,(∃ m,W 0 m σ H)/\∀ i m σ H,W i m σ H ->
   ((Itz K k1 k2 a b).stop i H/\D.nx σ H)∨((Itz K k1 k2 a b).go i H/\∃ N:St->Hp->Prop,(∀ σ' H',N σ' H'->∃ m',m' < m/\W (i+1) m' σ' H')/\∀ x H',(Itz K k1 k2 a b).yld i H x H'->g x σ H' fun σ2 H2=>tb { D with nx:=N,ct:=N,bk:=D.nx } σ2 H2):=by
 refine ⟨fun i m σ H=>m=xs.length - i/\i<=xs.length/\Pv i σ H,⟨xs.length,by simp,Jj _,h0⟩,?_⟩
 rintro i m σ H ⟨rfl,hi,p⟩
 obtain ⟨q1,q2⟩:=hl i σ H hi p
 by_cases hlt:i < xs.length
 ·refine .inr ⟨⟨xs,ys,xs[i],ys[i]'(by omega),q1,q2,Qc hlt,Qc (by omega)⟩,Pv (i+1),fun σ' H' p'=>⟨xs.length - (i+1),by omega,rfl,hlt,p'⟩,fun x H' y=>?_⟩
  obtain ⟨z,hz,rfl,hy⟩:=y
  obtain ⟨x,y,h1,h2,rfl⟩:=hy xs ys q1 q2
  exact hs i x y z σ _ h1 h2 p hz
 ·have e:i=xs.length:=by omega
  subst e
  exact .inl ⟨⟨xs,ys,q1,q2,by rw [<- heq,Nat.min_self]⟩,hd σ H p⟩
section
variable {cd:Value} {s0:Shared} {E:XK}
end
abbrev vbm:List Value:=[.type "ValueError",.type "Exception",.type "BaseException",.type "object"]
def qns:List Str:=["__init__", "__getattribute__", "__getattr__", "__class__"]
inductive TailN (h:Heap) (bmB:List Value):List Value->Prop
 | base:TailN h bmB bmB
 | own {A:Addr} {c0:Value} {dd:Option Addr} {cd:ClassData} {sl:Array (Option Value)} {mA:Str->Option Value} {tl:List Value} :
   h.get? A=some { cls:=c0,dict:=dd,data:=.cls cd,slots:=sl }->h.Ns cd.ns mA->(∀ n∈qns,mA n=none)->TailN h bmB tl->TailN h bmB (.ref A::tl)
theorem TailN.tail {bmB tl:List Value} (T:TailN h bmB tl):OwnTail h bmB tl:=by
 induction T with
 | base=>exact .base
 | own hA hN hq _ ih=>exact .own hA hN (hq _ (.head _)) ih
theorem TailN.keeps {bmB tl:List Value} (T:TailN h bmB tl) (hk:∀ b o,h.get? b=some o->h'.get? b=some o):TailN h' bmB tl:=by
 induction T with
 | base=>exact .base
 | own hA hN hq _ ih=>exact .own (hk _ _ hA) (hN.keeps hk) hq ih
def EcH (h:Heap) (C:Addr) (bm:List Value):Prop:=∃ N nm q bs hdct sn sub ab col dd k0 k1 k2 k3 k5 mN,h.get? C=some (excClassObj nm q C N bs bm hdct sn sub ab col dd k0 k1 k2 k3 k5 "ValueError.__new__")/\h.Ns N mN/\(∀ n∈qns,mN n=none)/\TailN h vbm bm
theorem EcH.keeps (x:EcH h C bm) (hk:∀ b o,h.get? b=some o->h'.get? b=some o):EcH h' C bm:=by
 obtain ⟨N,nm,q,bs,hdct,sn,sub,ab,col,dd,k0,k1,k2,k3,k5,mN,hC,hN,hq,T⟩:=x
 exact ⟨N,nm,q,bs,hdct,sn,sub,ab,col,dd,k0,k1,k2,k3,k5,mN,hk _ _ hC,hN.keeps hk,hq,T.keeps hk⟩
section
variable {g:Array GenState} {d:Drawn} {t:Nat}
theorem EcH.has (x:EcH h C bm) (hb:vbm.contains (.type T)=true):(Value.ref C::bm).contains (.type T)=true:=by
 obtain ⟨N,nm,q,bs,hdct,sn,sub,ab,col,dd,k0,k1,k2,k3,k5,mN,hC,hN,hmN,TT⟩:=x
 rw [List.contains_cons,TT.tail.hasType hb,Bool.or_true]
end
section
variable {l:List Env} {E:XK} {T:Addr}
end
section
variable {σ:St} {E:XK} {e:Value} {F:Value->Shared->Prop} {L:Addr}
end
section
variable {g:Array GenState} {d:Drawn} {t:Nat} {C':Addr} {oe:Obj} {bm':List Value}
end
section
variable {k:Nat} {dvs:List V} {ds:List Value} {p pos:Pos} {t:TA}
end
structure PEo (X:Cx) (e:Expr) (t:TE):Prop where
 go:PE X e t
structure PAo (X:Cx) (es:List Expr) (t:TA):Prop where
 go:PA X es t
structure PSo (X:Cx) (st:Stmt) (t:TS):Prop where
 go:PS X st t
structure PSso (X:Cx) (sts:List Stmt) (t:TS):Prop where
 go:PSs X sts t
section
variable {pos:Pos} {a b:Expr} {t:TA} {jF:List Stmt} {ts us:TS}
end
def tDt (K:PySem.W.Frag) (Z:List Addr) (S:St->Prop) (d:PyData):TE:=fun σ H Q=>S σ/\Fx Z H/\∀ v H',aD H H'->Den K (Vw Z H') d v->Q v H'
def tDA (K:PySem.W.Frag) (Z:List Addr) (S:St->Prop) (ds:List PyData):TA:=fun σ H Q=>S σ/\Fx Z H/\∀ vs H',aD H H'->aN K (Vw Z H') ds vs->Q vs H'
structure Dt (X:Cx) (K:PySem.W.Frag) (Z:List Addr) (S:St->Prop) (e:Expr) (d:PyData):Prop where
 go:PE X e (tDt K Z S d)
structure DA (X:Cx) (K:PySem.W.Frag) (Z:List Addr) (S:St->Prop) (es:List Expr) (ds:List PyData):Prop where
 go:PA X es (tDA K Z S ds)
section
variable {Z:List Addr} {S:St->Prop} {pos:Pos} {a b:Expr} {d:PyData}
theorem PE.imp {t t':TE} (h:PE X e t) (q:∀ σ H Q,t' σ H Q->t σ H Q):PE X e t':=fun pins s σ H Q I z=>h pins s σ H Q I (q σ H Q z)
theorem PA.imp {t t':TA} (h:PA X es t) (q:∀ σ H Q,t' σ H Q->t σ H Q):PA X es t':=fun pos pins s σ H Q I z=>h pos pins s σ H Q I (q σ H Q z)
theorem sO (h:aN K H ds xs):∀ n,aN K H (List.replicate n ds).flatten (List.replicate n xs).flatten
 | 0=>aL.mpr rfl
 | n+1=>by
  rw [Xi,Xi,Xx,Xx]
  exact aZ h (sO h n)
theorem PSso.ex {sts:List Stmt} {t:TS} {R:TS->Prop} (h:PSso X sts t) (r:R t):∃ t,PSs X sts t/\R t:=⟨t,h.go,r⟩
end
section
variable {l:Expr} {tb:TS} {pos:Pos}
end
section
variable {e l:Addr} {P:Nat->Value->Prop} {st:Nat->Heap->Prop}
theorem aCP {i:Nat} {old:Value} (S:Sub prog w it l n P st) (hei:e≠it) (hel:l≠e) (he:IsEnum s.heap e it i old) (h1:st i s.heap) (hi:i < n) (hQ:∀ h' x tk,P i x->IsEnumOut h' e it ((i:Int)+1) x s.heap.objs.size->st (i+1) h'->h'.get? s.heap.objs.size=some { cls:=.type "tuple",data:=.seq #[.int i tk,x] } ->
   (∀ c o,c≠e->c≠it->s.heap.get? c=some o->h'.get? c=some o)->Q (.ref s.heap.objs.size) { s with heap:=h',toks:=s.toks+1 }) :
  wpAny (model prog w) A (Builtin.«enumerate.__next__» ⟨[.ref e],[]⟩) (fun fin s'=>∃ v,fin=.done (.ret v)/\Q v s') E s:=by
 refine wpAny_bind (m:=field (.ref e) 2) (wpAny_field he rfl (x:=.ref it) rfl ?_)
 refine wpAny_bind (m:=Builtin.SmallTypes.nextOf (.ref it)) (S.item _ i _ _ _ hi h1 fun x g1 px t1 b1=>?_)
 have e1:IsEnum g1 e it i old:=b1.extBut _ _ hei he
 refine wpAny_bind (m:=field (.ref e) 3) (wpAny_field e1 rfl (x:=rawInt i) rfl ?_)
 refine wpAny_bind (m:=field (.ref e) 4) (wpAny_field e1 rfl (x:=.none) rfl ?_)
 refine wpAny_bind (m:=mkInt i) (wpAny_mkInt ?_)
 refine wpAny_bind (m:=setField (.ref e) 3 (rawInt ((i:Int)+1))) (wpAny_setField_rec e1 (by simp) fun g2 e2 b2=>?_)
 have e2':IsEnum g2 e it ((i:Int)+1) old:=e2
 refine wpAny_bind (m:=setField (.ref e) 4 .none) (wpAny_setField_rec e2' (by simp) fun g3 e3 b3=>?_)
 have e3':IsEnum g3 e it ((i:Int)+1) old:=e3
 refine wpAny_bind (m:=newTuple [.int i s.toks,x]) (wpAny_newTuple ?_)
 have sz:g3.objs.size=s.heap.objs.size:=by rw [b3.1,b2.1,b1.1]
 have e4:IsEnum (g3.push { cls:=.type "tuple",data:=.seq #[.int i s.toks,x] }) e it ((i:Int)+1) old:=Qa _ e3'
 have T4:(g3.push { cls:=.type "tuple",data:=.seq #[.int i s.toks,x] }).get? s.heap.objs.size=some { cls:=.type "tuple",data:=.seq #[.int i s.toks,x] }:=by rw [<- sz]; exact Qm _ rfl
 have kp4:∀ c o,c≠e->c≠it->s.heap.get? c=some o->(g3.push { cls:=.type "tuple",data:=.seq #[.int i s.toks,x] }).get? c=some o:=fun c o c1 c2 q =>
  Qa _ (b3.extBut _ _ c1 (b2.extBut _ _ c1 (b1.extBut _ _ c2 q)))
 have t4:st (i+1) (g3.push { cls:=.type "tuple",data:=.seq #[.int i s.toks,x] }):=S.keep _ _ _ t1 fun c hc o q=>by
  have c1:c≠e:=by rcases hc with r | r <;> rw [r]; exact Ne.symm hei; exact hel
  exact Qa _ (b3.extBut _ _ c1 (b2.extBut _ _ c1 q))
 have elt:s.heap.objs.size≠e:=Zy (Qo he)
 rw [sz]
 generalize g3.push { cls:=.type "tuple",data:=.seq #[.int i s.toks,x] }=g4 at e4 T4 kp4 t4 ⊢
 refine wpAny_bind (m:=Builtin.SmallTypes.ownedTupleIsFree (.ref e)) ?_
 unfold Builtin.SmallTypes.ownedTupleIsFree
 refine wpAny_bind (wpAny_field e4 rfl (x:=.none) rfl (wpAny_pure ?_))
 simp only [if_true]
 refine wpAny_bind (wpAny_rule ?_)
 refine wpAny_bind (wpAny_field e4 rfl (x:=old) rfl ?_)
 refine wpAny_bind (wpAny_setField_rec e4 (by simp) fun g5 e5 b5=>?_)
 have e5':IsEnum g5 e it ((i:Int)+1) x:=e5
 refine wpAny_bind (m:=Builtin.SmallTypes.ownedTupleHandOut (.ref e) (.ref s.heap.objs.size)) ?_
 unfold Builtin.SmallTypes.ownedTupleHandOut
 refine wpAny_bind (wpAny_setField_rec e5' (by simp) fun g6 e6 b6=>?_)
 have e6':IsEnumOut g6 e it ((i:Int)+1) x s.heap.objs.size:=e6
 refine wpAny_setField_rec e6' (by simp) fun g7 e7 b7=>?_
 have e7':IsEnumOut g7 e it ((i:Int)+1) x s.heap.objs.size:=e7
 have up:∀ c o,c≠e->g4.get? c=some o->g7.get? c=some o:=fun c o c1 q=>b7.extBut _ _ c1 (b6.extBut _ _ c1 (b5.extBut _ _ c1 q))
 refine wpAny_bind (wpAny_letGo (wpAny_pure ⟨_,rfl,hQ g7 x s.toks px e7' ?_ (up _ _ elt T4) fun c o c1 c2 q=>up c o c1 (kp4 c o c1 c2 q)⟩))
 exact S.keep _ _ _ t4 fun c hc o q=>up c o (by rcases hc with r | r <;> rw [r]; exact Ne.symm hei; exact hel) q
theorem aEd {old:Value} {Q:Fin->Shared->Prop} (hh:A.handled=none) (S:Sub prog w it l n P st) (he:IsEnum s.heap e it n old) (h1:st n s.heap)
  (hE:∀ h' x,Heap.ExtBut it s.heap h'->(∃ o,h'.get? x=some o/\o.cls=.type "StopIteration")->E (.ref x) { s with heap:=h' }) :
  wpAny (model prog w) A (Builtin.«enumerate.__next__» ⟨[.ref e],[]⟩) Q E s:=by
 refine wpAny_bind (m:=field (.ref e) 2) (wpAny_field he rfl (x:=.ref it) rfl ?_)
 exact wpAny_bind (m:=Builtin.SmallTypes.nextOf (.ref it)) (S.done _ _ _ _ hh h1 hE)
end
def Ite (K:PySem.W.Frag) (k:Sk) (a:Addr):It :=
 ⟨fun i H => ∃ xs x, SqK k K H a xs /\ xs[i]? = some x,
  fun i H v H'=>∃ p,H p=none/\v=.ref p/\∀ xs,SqK k K H a xs->∃ x,xs[i]?=some x/\H'=upd H p (.tup [.int (i:Nat),x]),
  fun i H=>∃ xs,SqK k K H a xs/\xs.length=i⟩
theorem aBM {x1} {pos:Pos} (k:Sk) (a e it:Addr) (hei:e≠it) :
  Turn P w K (.Tuple es x1 pos) (Ite K k a) [e,it] e (fun i h=>(∃ old,IsEnum h e it i old)/\ItK k h it a i) where
 mem:=by simp
 obj:=fun i h st c hc=>by
  obtain ⟨⟨old,he⟩,h1⟩:=st
  simp only [Qj,Qq,or_false] at hc
  rcases hc with rfl | rfl
  ·exact ⟨_,he,fun v q=>by cases q⟩
  ·exact h1.obj
 keep:=fun i h h' st kp=>by
  obtain ⟨⟨old,he⟩,h1⟩:=st
  exact ⟨⟨old,kp e (by simp) _ he⟩,h1.at fun o q=>kp it (by simp) o q⟩
 item:=by
  intro X hP hw hK hc i pins s σ H E I hf st hg
  subst hP hw hK
  obtain ⟨⟨old,he⟩,h1⟩:=st
  obtain ⟨xs,x,ha,hx⟩:=hg
  obtain ⟨its,rv,pa⟩:=I.seqK ha
  obtain ⟨u,hu,ru⟩:=rv.get hx
  have na:∀ c∈[e,it],a≠c:=fun c hc'=>I.seq_ne ha (hf c hc')
  have hT:s.TypeIs (.ref e) "enumerate" := ⟨_,he,rfl⟩
  have hi1:i < its.toArray.size:=by rw [Qk]; exact (Qd.mp hu).1
  unfold pyNext
  refine wpAny_bind (wpAny_attempt (wpAny_callSpecial?_slot (name:=Str.ofString "__next__") hT PySem.F.slot_enumerate_next (wpAny_call_entry PySem.F.slot_enumerate_next hT PySem.F.entry_enumerate_next
   (aCP (oO k X.prog X.w it a its.toArray (na it (by simp))) hei (na e (by simp)) he ⟨h1,pa⟩ hi1 fun h' u' tk pu he' s1 hT' kp=>wpAny_pure ?_) (PySem.F.args_enumerate_next_1 _))))
  have eu:u'=u:=by
   have q:its[i]?=some u':=by simpa using pu
   rw [hu] at q
   exact (Option.some.inj q).symm
  subst eu
  refine ⟨_,rfl,wpAny_letOwnedTupleGo_enum he' fun h2 he2 sb2=>?_⟩
  have Te:s.heap.objs.size≠e:=Zy (Qo he)
  have hT2:h2.get? s.heap.objs.size=some { cls:=.type "tuple",data:=.seq #[.int i tk,u'] }:=sb2.extBut _ _ Te hT'
  have hf0:=I.hok.fresh (Qg s.heap.objs.size)
  have fz:=I.fpOk (Qg s.heap.objs.size) hf0
  have I2:Inv X pins σ H { s with heap:=h2,toks:=s.toks+1 }:=by
   refine I.turnedL (t':=s.toks+1) [e,it] (fun c o hc' q=>?_) hf
   simp only [Qj,Qq,or_false,not_or] at hc'
   exact sb2.extBut _ _ hc'.1 (kp c o hc'.1 hc'.2 q)
  have I3:Inv X pins σ (upd H s.heap.objs.size (.tup [.int (i:Nat),x])) { s with heap:=h2,toks:=s.toks+1 }:=by
   refine I2.trackO (show cO X.prog X.w _ _ _ (.tup [.int (i:Nat),x]) from ⟨by show 2<=sizeLine; rw [sizeLine_eq]; decide,[.int i tk,u'],0,.cons ⟨tk,rfl⟩ (.cons ru .nil),hT2⟩) hf0 fz.2.1 I.sz fz.2.2.2.2.1 fz.2.2.2.2.2
  refine ⟨.ref s.heap.objs.size,_,I3,rfl,⟨s.heap.objs.size,hf0,rfl,fun xs' ha'=>?_⟩,⟨⟨_,by simpa using he2⟩,s1.1.at fun o q=>sb2.extBut _ _ (Ne.symm hei) q⟩,fun c hc'=>?_⟩
  ·rw [I.seqK_inj ha' ha]
   exact ⟨x,hx,rfl⟩
  ·have cl:c≠s.heap.objs.size:=by
    obtain ⟨o,q⟩:∃ o,s.heap.get? c=some o:=by
     simp only [Qj,Qq,or_false] at hc'
     rcases hc' with rfl | rfl
     ·exact ⟨_,he⟩
     ·obtain ⟨o,q,_⟩:=h1.obj; exact ⟨o,q⟩
    exact Jp (Qo q)
   rw [aK cl]
   exact (hf c hc').1
 done:=by
  intro X hP hw hK hc i pins s σ H E I hf st hg
  subst hP hw hK
  obtain ⟨⟨old,he⟩,h1⟩:=st
  obtain ⟨xs,ha,hlen⟩:=hg
  obtain ⟨its,rv,pa⟩:=I.seqK ha
  have la:=rv.length
  have na:∀ c∈[e,it],a≠c:=fun c hc'=>I.seq_ne ha (hf c hc')
  have hT:s.TypeIs (.ref e) "enumerate" := ⟨_,he,rfl⟩
  have ei:i=its.toArray.size:=by rw [Qk]; omega
  subst ei
  unfold pyNext
  refine wpAny_bind (wpAny_attempt (wpAny_callSpecial?_slot (name:=Str.ofString "__next__") hT PySem.F.slot_enumerate_next (wpAny_call_entry PySem.F.slot_enumerate_next hT PySem.F.entry_enumerate_next
   (aEd (I.ok.hd hc) (oO k X.prog X.w it a its.toArray (na it (by simp))) he ⟨h1,pa⟩ fun h' x kp hx=>?_) (PySem.F.args_enumerate_next_1 _))))
  obtain ⟨oe,hoe,hce⟩:=hx
  refine wpAny_bind (wpAny_isInstance (T := "StopIteration") (b:=true) ⟨oe,hoe,hce⟩ isSubtype_stop (wpAny_pure ⟨rfl,?_⟩))
  refine I.turnedL (t':=s.toks) [e,it] (fun c o hc' q=>?_) hf
  simp only [Qj,Qq,or_false,not_or] at hc'
  exact kp c o hc'.2 q
 self:=fun _ _ _ _ _ st h=>by
  obtain ⟨⟨old,he⟩,_⟩:=st
  exact wpAny_pyIter_enum he h
theorem aBN (k:Sk) (a:Addr) (xs:Array Value) :
  Meets (Builtin.«enumerate.__new__» ⟨[.type "enumerate",.ref a],[]⟩) (fun _ R s=>AtK k s.heap a xs /\
   R (.ok (.ret (.ref (s.heap.push (itK k a)).objs.size))) { s with heap:=(s.heap.push (itK k a)).push { cls:=.type "enumerate",data:=.fields #[.none,.bool false,.ref s.heap.objs.size,rawInt 0,.none,.none] } }) :=
 .of_wp fun prog w A R s h=>by
  obtain ⟨hp,g,d,tk,os⟩:=s
  obtain ⟨hl,h⟩:=h
  have hsub:=sub_enumerate
  have hA:AtK k (Shared.heap ⟨hp,g,d,tk,os⟩) a xs:=hl
  obtain ⟨o,ho,hc⟩:∃ o,hp.get? a=some o/\(o.cls=.type "list" ∨ o.cls=.type "tuple"):=by
   cases k
   ·obtain ⟨o,e,c,_⟩:=hl; exact ⟨o,e,.inl c⟩
   ·obtain ⟨o,e,c,_⟩:=hl; exact ⟨o,e,.inr c⟩
  have hoL:(Shared.heap ⟨hp,g,d,tk,os⟩).get? a=some o:=ho
  wp_walk using AutoSeq1.wpAny_loadPart' hoL
  refine wpAny_stack_any fun st=>wpAny_pure ?_
  split
  ·rename_i c _ _ _ _ _
   cases (c==Value.type "enumerate")
   ·wp_walk using AutoSeq1.wpAny_loadPart' hoL,qW hA
    exact ⟨_,rfl,h⟩
   ·wp_walk using AutoSeq1.wpAny_loadPart' hoL,qW hA
    exact ⟨_,rfl,h⟩
  ·wp_walk using AutoSeq1.wpAny_loadPart' hoL,qW hA
   exact ⟨_,rfl,h⟩
def aGP (K:PySem.W.Frag) (k:Sk) (ta:TA):TI:=fun σ H R=>ta σ H fun vs H1=>∃ a xs,vs = [.ref a]/\SqK k K H1 a xs/\R (Ite K k a) H1
theorem wC (k:Sk) {a:Expr} {ta:TA} {p pos:Pos} (hg:Gl X "enumerate") (hm:X.mg "enumerate" = none) (ha:PA X [a] ta) (hs:starEach [a] X.env = [(false,eval a X.env)]:=by rfl) :
  PI X (.Tuple es x1 tpos) (.Call (.Name "enumerate" p) [a] [] pos) (aGP X.K k ta):=by
 intro pins s σ H R I h
 refine Call_ (jN (u:=.type "enumerate") I hg hm (by decide +kernel) (PyProof.Rows.callWith_type1 (thn (ha pos pins s σ H _ I h) fun us s1 hx9=>?_) hs rfl))
 obtain ⟨vs,H1,I1,r1,q1⟩:=hx9
 obtain ⟨l,xs,rfl,hA,q⟩:=q1
 obtain ⟨u1,rfl,r1'⟩:=kJ r1
 cases r1'
 obtain ⟨its,rv,pa⟩:=I1.seqK hA
 refine callType_new PySem.F.called_enumerate (by decide) (PySem.F.typeCall_enumerate_1 _) (PySem.F.newCall_enumerate_1 _) (fun obj=>PySem.F.args_object_init_2 obj _) PySem.F.entry_enumerate_new (aBN k l its.toArray) ⟨pa,?_⟩
 have n1:(s1.heap.push (itK k l)).objs.size=s1.heap.objs.size+1:=Jl ..
 have g2:IsEnum ((s1.heap.push (itK k l)).push { cls:=.type "enumerate",data:=.fields #[.none,.bool false,.ref s1.heap.objs.size,rawInt 0,.none,.none] }) (s1.heap.push (itK k l)).objs.size s1.heap.objs.size 0 .none:=Qm _ rfl
 have g1:ItK k ((s1.heap.push (itK k l)).push { cls:=.type "enumerate",data:=.fields #[.none,.bool false,.ref s1.heap.objs.size,rawInt 0,.none,.none] }) s1.heap.objs.size l 0:=(ItK.new k s1.heap l).at fun o e=>Qa _ e
 have kp:∀ c o,s1.heap.get? c=some o->((s1.heap.push (itK k l)).push { cls:=.type "enumerate",data:=.fields #[.none,.bool false,.ref s1.heap.objs.size,rawInt 0,.none,.none] }).get? c=some o:=fun c o e=>Qa _ (Qa _ e)
 generalize (s1.heap.push (itK k l)).push { cls:=.type "enumerate",data:=.fields #[.none,.bool false,.ref s1.heap.objs.size,rawInt 0,.none,.none] }=h2 at g1 g2 kp ⊢
 refine ⟨⟨_,g2,rfl⟩,wpAny_pyIter_enum g2 ?_⟩
 rw [n1] at *
 have I2:Inv X pins σ H1 { s1 with heap:=h2 }:=I1.kept (t':=s1.toks) kp
 refine ⟨s1.heap.objs.size+1,[s1.heap.objs.size+1,s1.heap.objs.size],_,_,H1,rfl,I2,aBM k l (s1.heap.objs.size+1) s1.heap.objs.size (Nat.succ_ne_self _),⟨⟨_,g2⟩,g1⟩,fun c hc=>?_,q⟩
 have hc':s1.heap.objs.size<=c:=by
  simp only [Qj,Qq,or_false] at hc
  rcases hc with r | r
  ·rw [r]; exact Zl _ _
  ·rw [r]; exact Qg _
 exact I1.fpOk hc' (I1.hok.fresh hc')
theorem aCQ {k:Sk} {tb:TS} {σ:St} (Pv:Nat->St->Hp->Prop) (h0:Pv 0 σ H) (hl:∀ i σ H,i<=xs.length->Pv i σ H->SqK k K H a xs) (hs:∀ i x p σ H,xs[i]?=some x->Pv i σ H->H p=none->g (.ref p) σ (upd H p (.tup [.int (i:Nat),x])) fun σ2 H2=>tb { D with nx:=Pv (i+1),ct:=Pv (i+1),bk:=D.nx } σ2 H2) (hd:∀ σ H,Pv xs.length σ H->D.nx σ H) :
  ∃ W:Nat->Nat->St->Hp->Prop,(∃ m,W 0 m σ H)/\∀ i m σ H,W i m σ H ->
   ((Ite K k a).stop i H/\D.nx σ H)∨((Ite K k a).go i H/\∃ N:St->Hp->Prop,(∀ σ' H',N σ' H'->∃ m',m' < m/\W (i+1) m' σ' H')/\∀ x H',(Ite K k a).yld i H x H'->g x σ H' fun σ2 H2=>tb { D with nx:=N,ct:=N,bk:=D.nx } σ2 H2):=by
 refine ⟨fun i m σ H=>m=xs.length - i/\i<=xs.length/\Pv i σ H,⟨xs.length,by simp,Jj _,h0⟩,?_⟩
 rintro i m σ H ⟨rfl,hi,p⟩
 have q:=hl i σ H hi p
 by_cases hlt:i < xs.length
 ·refine .inr ⟨⟨xs,xs[i],q,Qc hlt⟩,Pv (i+1),fun σ' H' p'=>⟨xs.length - (i+1),by omega,rfl,hlt,p'⟩,fun x H' y=>?_⟩
  obtain ⟨p1,hp1,rfl,y⟩:=y
  obtain ⟨v,hv,rfl⟩:=y xs q
  exact hs i v p1 σ H hv p hp1
 ·have e:i=xs.length:=by omega
  subst e
  exact .inl ⟨⟨xs,q,rfl⟩,hd σ H p⟩
theorem aFS (h:n<=1000):n<=sizeLine:=by rw [sizeLine_eq]; omega
section
variable {own:Nat} {fr:List Nat} {σ:St}
theorem aEe {i:Nat} (h:vs[i]?=some v):vs.take (i+1)=vs.take i++[v]:=by rw [Wl,h]; rfl
theorem wD (SH:St->Prop) (hn:n<=1000) (hl:vs.length=n) (hσ:SH (blk own fr σ)) (hstop:∀ H',aD H H'->J.stop n H') (hgo:∀ i H',i < n->aD H H'->J.go i H') (hs:∀ i v x σ H1 H2,i < n->vs[i]?=some v->SH σ->aD H H1->J.yld i H1 x H2->∀ Q:V->St->Hp->Prop,(∀ σ2 H4,SH σ2->aD H1 H4->Q v σ2 H4)->g x σ H2 fun σ2 H3=>te σ2 H3 fun y H4=>Q y σ2 H4) (hd:∀ H',aD H H'->Qf H' vs) :
  ∃ W:Nat->Nat->List V->St->Hp->Prop,(∃ m,W 0 m [] (blk own fr σ) H)/\∀ i m ys σ' H,W i m ys σ' H ->
   (J.stop i H/\Qf H ys) ∨
   (J.go i H/\∃ N:List V->St->Hp->Prop,(∀ ys' σ2 H2,N ys' σ2 H2->∃ m',m' < m/\W (i+1) m' ys' σ2 H2) /\
    ∀ x H',J.yld i H x H'->g x σ' H' fun σ2 H2=>aBG σ2 H2 fun b H3=>if b=true then te σ2 H3 fun y H4=>ys.length < sizeLine/\N (ys++[y]) σ2 H4 else N ys σ2 H3):=by
 refine oP n (aFS hn) SH (fun i ys H'=>ys=vs.take i/\aD H H') hσ ⟨rfl,aD.refl H⟩ (fun i ys H' p=>by rw [p.1,Ja]; omega) (fun ys H' p=>hstop H' p.2) (fun i ys H' hi p=>hgo i H' hi p.2) ?_ (fun ys H' p=>?_)
 ·rintro i ys σ' x H1 H2 hi sh ⟨rfl,s1⟩ hy hz
  have hv:vs[i]?=some vs[i]:=Qc (by omega)
  have h:=hs i vs[i] x σ' H1 H2 hi hv sh s1 hy (fun y σ2 H4=>(vs.take i).length < sizeLine/\SH σ2/\(vs.take i++[y]=vs.take (i+1)/\aD H H4)) fun σ2 H4 sh2 s4=>⟨hz,sh2,(aEe hv).symm,s1.trans s4⟩
  exact h
 ·obtain ⟨rfl,s1⟩:=p
  rw [Jt (by omega)]
  exact hd H' s1
theorem sP (SH:St->Prop) (hn:xs.length<=1000) (hl:vs.length=xs.length) (ha:SqL K H a xs) (hσ:SH (blk own fr σ)) (hs:∀ (i:Nat) x v σ H1,xs[i]?=some x->vs[i]?=some v->SH σ->aD H H1->∀ Q:V->St->Hp->Prop,(∀ σ2 H4,SH σ2->aD H1 H4->Q v σ2 H4)->g x σ H1 fun σ2 H2=>te σ2 H2 fun y H4=>Q y σ2 H4) (hd:∀ H',aD H H'->Qf H' vs) :
  ∃ W:Nat->Nat->List V->St->Hp->Prop,(∃ m,W 0 m [] (blk own fr σ) H)/\∀ i m ys σ' H,W i m ys σ' H ->
   ((Itl K a).stop i H/\Qf H ys) ∨
   ((Itl K a).go i H/\∃ N:List V->St->Hp->Prop,(∀ ys' σ2 H2,N ys' σ2 H2->∃ m',m' < m/\W (i+1) m' ys' σ2 H2) /\
    ∀ x H',(Itl K a).yld i H x H'->g x σ' H' fun σ2 H2=>aBG σ2 H2 fun b H3=>if b=true then te σ2 H3 fun y H4=>ys.length < sizeLine/\N (ys++[y]) σ2 H4 else N ys σ2 H3):=by
 refine wD SH hn hl hσ (fun H' s=>⟨xs,s.seqL ha,Qg _⟩) (fun i H' hi s=>⟨xs,xs[i],s.seqL ha,Qc hi⟩) (fun i v x σ H1 H2 hi hv sh s y Q k=>?_) hd
 obtain ⟨e,y⟩:=y
 subst e
 exact hs i x v σ _ (y xs (s.seqL ha)) hv sh s Q k
theorem iV (SH:St->Prop) (hn:xs.length<=1000) (hl:vs.length=xs.length) (ha:SqT K H a xs) (hσ:SH (blk own fr σ)) (hs:∀ (i:Nat) x v σ H1,xs[i]?=some x->vs[i]?=some v->SH σ->aD H H1->∀ Q:V->St->Hp->Prop,(∀ σ2 H4,SH σ2->aD H1 H4->Q v σ2 H4)->g x σ H1 fun σ2 H2=>te σ2 H2 fun y H4=>Q y σ2 H4) (hd:∀ H',aD H H'->Qf H' vs) :
  ∃ W:Nat->Nat->List V->St->Hp->Prop,(∃ m,W 0 m [] (blk own fr σ) H)/\∀ i m ys σ' H,W i m ys σ' H ->
   ((Itt K a).stop i H/\Qf H ys) ∨
   ((Itt K a).go i H/\∃ N:List V->St->Hp->Prop,(∀ ys' σ2 H2,N ys' σ2 H2->∃ m',m' < m/\W (i+1) m' ys' σ2 H2) /\
    ∀ x H',(Itt K a).yld i H x H'->g x σ' H' fun σ2 H2=>aBG σ2 H2 fun b H3=>if b=true then te σ2 H3 fun y H4=>ys.length < sizeLine/\N (ys++[y]) σ2 H4 else N ys σ2 H3):=by
 refine wD SH hn hl hσ (fun H' s=>⟨xs,s.seqT ha,Qg _⟩) (fun i H' hi s=>⟨xs,xs[i],s.seqT ha,Qc hi⟩) (fun i v x σ H1 H2 hi hv sh s y Q k=>?_) hd
 obtain ⟨e,y⟩:=y
 subst e
 exact hs i x v σ _ (y xs (s.seqT ha)) hv sh s Q k
end
section
variable {jF:List Stmt} {t u:TS}
end
theorem mK (hK:X.K=K):IxR X (aGI K):=by subst hK; exact eD
theorem gS (hK:X.K=K):OpR X (compareOp .NotIn) (rIn K true):=by subst hK; exact vX
theorem yK {l:Expr} (hK:X.K=K) (hl:PE X l tl):PI X tg l (aFa K tl):=by subst hK; exact cN hl
theorem uM (xs:Array Value):slicePick xs none none (some (-1))=xs.toList.reverse.toArray:=by
 unfold slicePick
 have e1:sliceBounds none none (some (-1)) xs.size=((xs.size:Int) - 1,-1,-1):=by simp [sliceBounds]
 rw [e1,<- yF xs]
 congr 1
 show List.filterMap (fun x=>xs[x]?) (sliceRange ((xs.size:Int) - 1) (-1) (-1))=_
 have e2:sliceRange ((xs.size:Int) - 1) (-1) (-1)=(List.range xs.size).map fun (k:Nat)=>((xs.size:Int) - 1+(k:Int)*(-1)).toNat:=by
  unfold sliceRange
  rw [if_neg (by decide)]
  have e3:(if (xs.size:Int) - 1 > -1 then ((xs.size:Int) - 1 - -1 - -1 - 1) / (- -1) else 0).toNat=xs.size:=by
   by_cases h0:xs.size=0
   ·rw [h0]; decide
   ·rw [if_pos (by omega),show (- -1:Int)=1 from rfl,Ww]; omega
  show (List.range (if (xs.size:Int) - 1 > -1 then ((xs.size:Int) - 1 - -1 - -1 - 1) / (- -1) else 0).toNat).map _=_
  rw [e3]
  refine Xz fun k _=>?_
  congr 1
  omega
 rw [e2,Wt]
 rfl
def aCR (K:PySem.W.Frag) (te ts:TE):TE:=fun σ H Q=>te σ H fun x H1=>ts σ H1 fun y H2=>y=.int (-1)/\∃ a xs,x=.ref a/\SqL K H2 a xs/\∀ p,H2 p=none->Q (.ref p) (upd H2 p (.lst xs.reverse))
theorem aAV {st:Expr} {pos:Pos} (he:PE X e te) (hst:PE X st ts):PE X (.Subscript e (.Slice none none (some st) p2) pos) (aCR X.K te ts):=by
 intro pins s σ H Q I h
 refine Subscript_ (thn (he pins s σ H _ I h) fun v s1 hx9=>?_)
 obtain ⟨x,H1,I1,r1,q1⟩:=hx9
 refine wpAny_Slice ?_
 rw [evalPart_none]
 refine wpAny_pure ?_
 show wpAny _ _ (evalPart none X.env) _ _ s1
 rw [evalPart_none]
 refine wpAny_pure ?_
 show wpAny _ _ (evalPart (some st) X.env) _ _ s1
 rw [evalPart_some]
 refine thn (hst pins s1 σ H1 _ I1 q1) fun vst s3 hx9=>?_
 obtain ⟨y,H3,I3,r3,q3⟩:=hx9
 obtain ⟨rfl,a,xs,rfl,hx,q⟩:=q3
 obtain ⟨tk,rfl⟩:=r3
 cases r1
 have I4:Inv X pins σ H3 { s3 with heap:=s3.heap.push { cls:=.type "slice",data:=.fields #[.none,.none,.int (-1) tk] } }:=I3.kept (t':=s3.toks) fun b ob q=>Qa _ q
 obtain ⟨its,r,ht,hz⟩:=I4.list hx
 have hlen:=r.length
 have hg:wpAny (model X.prog X.w) X.A (getItem (.ref a) (.ref s3.heap.objs.size)) (EP X pins σ Q) X.xe { s3 with heap:=s3.heap.push { cls:=.type "slice",data:=.fields #[.none,.none,.int (-1) tk] } }:=by
  refine wpAny_getItem_list_slice ht.isList (Heap.IsSliceOf.new ..) .none .none (.int (-1) tk) (by decide) ?_ (by rw [Qk]; omega)
  rw [uM]
  refine ⟨.ref _,_,I4.laid (t':=s3.toks) (o:=.lst xs.reverse) (fun b ob q=>Qa _ q) (Qg _) ?_,rfl,q _ (I4.hok.fresh (Qg _))⟩
  exact ⟨by rw [Zh]; exact hz,its.reverse,0,r.reverse,Qm _ rfl⟩
 show wpAny (model X.prog X.w) X.A (subscriptTail e (.Slice none none (some st) p2) (.ref a) (.ref s3.heap.objs.size)) (EP X pins σ Q) X.xe { s3 with heap:=s3.heap.push { cls:=.type "slice",data:=.fields #[.none,.none,.int (-1) tk] } }
 exact tail_any (ops:=[.ref a,.ref s3.heap.objs.size]) ht.isList.typeIs slot_list_getitem.lookup hg (by with_unfolding_all rfl)
section
variable {E E':Hp->V->Prop} {σ:St} {t:TA} {tl th:TO}
instance {a:Addr} {xs:List V}:Mo (fun H v=>v=.ref a/\SqT K (Vw S H) a xs):=⟨fun e h=>⟨h.1,(Vw.same e).seqT h.2⟩⟩
end
section
variable {pos:Pos} {it acc:Value} {env:Env}
end
section
variable {fr:List Nat} {pos:Pos} {wi wi2:TI}
end
section
variable {own:Nat} {fr:List Nat} {wi2:TI} {σ:St}
end
theorem aBO (bs:List Bool) (tr:Nat->Bool) (h:∀ i b,bs[i]?=some b->tr i=b):(List.range bs.length).any tr=bs.any id:=by
 rw [Xf,Jq,Jq]
 constructor
 ·rintro ⟨i,hi,q⟩
  have hi':=Js.mp hi
  rw [h i _ (Qc hi')] at q
  exact ⟨_,Zj hi',q⟩
 ·rintro ⟨b,hb,q⟩
  obtain ⟨i,hi⟩:=Wj hb
  exact ⟨i,Js.mpr (Qd.mp hi).1,by rw [h i b hi]; exact q⟩
theorem oS (hc:X.calm=true):gQ X (.builtin "any") (fun xs H Q=>∃ (p:Addr) (bs:List Bool),xs = [.ref p]/\SqL X.K H p (bs.map V.bl)/\Q (.bl (bs.any id)) H):=by
 intro pins s σ H xs us Q I r h
 obtain ⟨p,bs,rfl,hx,q⟩:=h
 obtain ⟨u,rfl,rx⟩:=kJ r
 cases rx
 obtain ⟨its,rv,pl,hz⟩:=I.list hx
 have hl:=rv.length
 rw [Qb] at hl
 have hlt:p < s.heap.objs.size:=by obtain ⟨o,n,e,_⟩:=pl; exact Qo e
 refine call_any_walk (wpAny_pyIter_list pl.isList ?_)
 refine ⟨s.heap.objs.size,_,_,_,_,_,fun i=>(bs[i]?).getD false,rfl,Walks.list (A:=X.A.in1) (I.ok.hd hc) s.heap.objs.size p (Jp hlt) its.toArray,⟨⟨_,Qm _ rfl,rfl,rfl⟩,pl.isList.push _⟩,?_,fun h' tk hk=>?_⟩
 ·intro i v s' Q' E' hP hQ'
  have hP':its[i]?=some v:=by simpa using hP
  have hi:i < bs.length:=by rw [hl]; exact (Qd.mp hP').1
  obtain ⟨w,hw,rw'⟩:=rv.get (i:=i) (x:=.bl bs[i]) (by rw [Qh,Qc hi]; rfl)
  rw [hw] at hP'
  cases hP'
  cases rw'
  have e:(bs[i]?).getD false=bs[i]:=by rw [Qc hi]; rfl
  rw [<- e]
  exact wpAny_truthy_bool hQ'
 ·have e:(List.range its.toArray.size).any (fun i=>(bs[i]?).getD false)=bs.any id:=by
   rw [Qk,<- hl]
   exact aBO bs _ fun i b hb=>by rw [hb]; rfl
  rw [e]
  refine ⟨.bl _,H,I.kept (h':=h') fun b o e=>hk b o ?_ (Qa _ e),rfl,q⟩
  intro z
  have z':b=s.heap.objs.size:=by simpa using z
  exact Qv _ (z' ▸ Qo e)
section
variable [DecidableEq κ]
def cB (kvs:List (κ×V)) (k:κ):Option V:=(kvs.find? fun kv=>decide (kv.1=k)).map (·.2)
def eP (kvs:List (κ×V)) (k:κ) (v:V):List (κ×V) :=
 if (kvs.any fun kv=>decide (kv.1=k))=true then kvs.map (fun kv=>if kv.1=k then (kv.1,v) else kv) else kvs++[(k,v)]
def aFf (kvs:List (κ×V)) (k:κ):List (κ×V):=kvs.filter fun kv=>decide (kv.1≠k)
theorem aCS {k:κ}:cB ([]:List (κ×V)) k=none:=rfl
theorem eQ {p:κ×V} {r:List (κ×V)} {k:κ} (e:p.1=k):cB (p::r) k=some p.2:=by simp [cB,Zo,e]
theorem fE {p:κ×V} {r:List (κ×V)} {k:κ} (e:¬ p.1=k):cB (p::r) k=cB r k:=by simp [cB,Zo,e]
theorem fG (k:κ):∀ kvs:List (κ×V),(kvs.any fun kv=>decide (kv.1=k))=(cB kvs k).isSome
 | []=>rfl
 | p::r=>by
  rw [Zq]
  by_cases e:p.1=k
  ·simp only [eQ e,decide_eq_true e,Bool.true_or,Wu]
  ·rw [fE e,decide_eq_false e,Wa]; exact fG k r
theorem yL (k j:κ) (y:V):∀ kvs:List (κ×V),cB (kvs.map fun kv=>if kv.1=k then (kv.1,y) else kv) j=(cB kvs j).map fun x=>if j=k then y else x
 | []=>rfl
 | p::r=>by
  have ih:=yL k j y r
  rw [Jk]
  by_cases h:p.1=k
  ·rw [if_pos h]
   by_cases e:p.1=j
   ·rw [eQ (p:=(p.1,y)) e,eQ e,Xj,if_pos (e.symm.trans h)]
   ·rw [fE (p:=(p.1,y)) e,fE e,ih]
  ·rw [if_neg h]
   by_cases e:p.1=j
   ·rw [eQ (p:=p) e,eQ e,Xj,if_neg (fun z=>h (e.trans z))]
   ·rw [fE (p:=p) e,fE e,ih]
theorem pY (k j:κ) (y:V):∀ kvs:List (κ×V),cB kvs k=none->cB (kvs++[(k,y)]) j=if j=k then some y else cB kvs j
 | [],_=>by
  by_cases e:k=j
  ·rw [if_pos e.symm]; exact eQ (p:=(k,y)) e
  ·rw [if_neg (fun z=>e z.symm)]; exact fE (p:=(k,y)) e
 | p::r,hn=>by
  rw [List.cons_append]
  have hk:¬ p.1=k:=fun z=>by rw [eQ z] at hn; cases hn
  rw [fE hk] at hn
  have ih:=pY k j y r hn
  by_cases e:p.1=j
  ·rw [eQ e,eQ e,if_neg (fun z=>hk (e.trans z))]
  ·rw [fE e,fE e,ih]
theorem jQ (kvs:List (κ×V)) (k j:κ) (y:V):cB (eP kvs k y) j=if j=k then some y else cB kvs j:=by
 unfold eP
 by_cases a:(kvs.any fun kv=>decide (kv.1=k))=true
 ·rw [if_pos a,yL]
  rw [fG] at a
  by_cases e:j=k
  ·obtain ⟨x,hx⟩:=Yw.mp a
   rw [if_pos e,e,hx,Xj,if_pos rfl]
  ·rw [if_neg e]
   cases cB kvs j with
   | none=>rfl
   | some x=>rw [Xj,if_neg e]
 ·rw [if_neg a]
  refine pY k j y kvs ?_
  rw [fG] at a
  cases q:cB kvs k with
  | none=>rfl
  | some x=>rw [q] at a; exact (a rfl).elim
theorem jW (kvs:List (κ×V)) (k:κ) (v:V):(eP kvs k v).length<=kvs.length+1:=by
 unfold eP
 split
 ·rw [Qb]; omega
 ·rw [Qt,Jn,List.length_nil]; omega
theorem yM {kvs:List (κ×V)} {k:κ} (v:V) (h:cB kvs k=none):eP kvs k v=kvs++[(k,v)]:=by
 unfold eP
 rw [fG,h]
 exact if_neg (by decide)
theorem rE.isSome_eq {o:Option V} {u:Option Value} (r:rE o u):o.isSome=u.isSome:=by
 cases o with
 | none => cases u with
   | none=>rfl
   | some _=>exact (show False from r).elim
 | some _ => cases u with
   | none=>exact (show False from r).elim
   | some _=>rfl
theorem rE.getD {o:Option V} {u:Option Value} {d:V} {d':Value} (r:rE o u) (rd:bI d d'):bI (o.getD d) (u.getD d'):=by
 cases o with
 | none => cases u with
   | none=>exact rd
   | some _=>exact (show False from r).elim
 | some _ => cases u with
   | none=>exact (show False from r).elim
   | some _=>exact r
theorem KV.val {kvs:List (κ×V)} {vs:List (κ×Value)} (r:KV kvs vs) (k:κ):rE (cB kvs k) (valueAt vs k):=by
 unfold KV at r
 induction r with
 | nil=>exact True.intro
 | @cons p q ps qs h t ih =>
  obtain ⟨h1,h2⟩:=h
  by_cases e:p.1=k
  ·have e':q.1=k:=h1.symm.trans e
   have b:valueAt (q::qs) k=some q.2:=by simp [valueAt,Zo,e']
   rw [eQ e,b]; exact h2
  ·have e':¬ q.1=k:=fun z=>e (h1.trans z)
   have b:valueAt (q::qs) k=valueAt qs k:=by simp [valueAt,Zo,e']
   rw [fE e,b]; exact ih
theorem KV.any {kvs:List (κ×V)} {vs:List (κ×Value)} (r:KV kvs vs) (k:κ):(kvs.any fun kv=>decide (kv.1=k))=vs.any fun kv=>decide (kv.1=k):=by
 unfold KV at r
 induction r with
 | nil=>rfl
 | cons h t ih=>rw [Zq,Zq,ih,h.1]
theorem KV.repl {kvs:List (κ×V)} {vs:List (κ×Value)} (r:KV kvs vs) (k:κ) (ry:bI y u) :
  KV (kvs.map fun kv=>if kv.1=k then (kv.1,y) else kv) (vs.map fun kv=>if kv.1=k then (kv.1,u) else kv):=by
 unfold KV at r ⊢
 induction r with
 | nil=>exact .nil
 | @cons p q ps qs h t ih =>
  rw [Jk,Jk]
  refine .cons ?_ ih
  obtain ⟨h1,h2⟩:=h
  by_cases e:p.1=k
  ·rw [if_pos e,if_pos (h1.symm.trans e)]; exact ⟨h1,ry⟩
  ·rw [if_neg e,if_neg (fun z=>e (h1.trans z))]; exact ⟨h1,h2⟩
theorem KV.put {kvs:List (κ×V)} {vs:List (κ×Value)} (r:KV kvs vs) (k:κ) (ry:bI y u):KV (eP kvs k y) (stored vs k u):=by
 unfold eP stored
 rw [r.any k]
 by_cases e:(vs.any fun kv=>decide (kv.1=k))=true
 ·rw [if_pos e,if_pos e]; exact r.repl k ry
 ·rw [if_neg e,if_neg e]; exact Paired.snoc r ⟨rfl,ry⟩
theorem KV.drop {kvs:List (κ×V)} {vs:List (κ×Value)} (r:KV kvs vs) (k:κ):KV (aFf kvs k) (without vs k):=by
 unfold KV at r ⊢
 unfold aFf without
 induction r with
 | nil=>exact .nil
 | @cons p q ps qs h t ih =>
  obtain ⟨h1,h2⟩:=h
  rw [Qw,Qw]
  by_cases e:p.1=k
  ·have a:¬ decide (p.1≠k)=true:=by simp [e]
   have b:¬ decide (q.1≠k)=true:=by simp [h1.symm.trans e]
   rw [if_neg a,if_neg b]; exact ih
  ·have e':¬ q.1=k:=fun z=>e (h1.trans z)
   have a:decide (p.1≠k)=true:=by simp [e]
   have b:decide (q.1≠k)=true:=by simp [e']
   rw [if_pos a,if_pos b]; exact .cons ⟨h1,h2⟩ ih
theorem KV.keys {kvs:List (κ×V)} {vs:List (κ×Value)} (r:KV kvs vs):kvs.map (·.1)=vs.map (·.1):=by
 unfold KV at r
 induction r with
 | nil=>rfl
 | cons h t ih=>rw [Jk,Jk,ih,h.1]
theorem KV.length {kvs:List (κ×V)} {vs:List (κ×Value)} (r:KV kvs vs):kvs.length=vs.length:=Paired.length r
end
theorem sQ {k:Key} (r:bI (kV k) u):(bL P w).is k u=true:=by
 cases k with
 | inl i=>obtain ⟨t,e⟩:=(show ∃ t,u=Value.int i t from r); subst e; exact xR P w i t
 | inr x=>obtain ⟨t,e⟩:=(show ∃ t,u=Value.str x t from r); subst e; exact xS P w x t
theorem vE:∀ {ks:List Key} {us:List Value},bJ (ks.map kV) us->ItemsAre (bL P w) ks us
 | [],_,r=>by rw [Wx] at r; cases r; exact .nil
 | k::ks,_,r=>by
  rw [Jk] at r
  cases r with
  | cons h t=>exact .cons (sQ h) (vE t)
abbrev KT (H:Hp):List (List Key×V)->List (List Key×Addr×Value)->Prop:=Paired fun p q=>p.1=q.1/\H q.2.1=some (.tup (p.1.map kV))/\bI p.2 q.2.2
theorem KT.val {kvs:List (List Key×V)} {xs:List (List Key×Addr×Value)} (r:KT H kvs xs) (k:List Key):rE (cB kvs k) ((atKey xs k).map (·.2)):=by
 induction r with
 | nil=>exact True.intro
 | @cons p q ps qs h t ih =>
  obtain ⟨h1,_,h2⟩:=h
  by_cases e:p.1=k
  ·have e':q.1=k:=h1.symm.trans e
   have b:atKey (q::qs) k=some q.2:=by simp [atKey,Zo,e']
   rw [eQ e,b]; exact h2
  ·have e':¬ q.1=k:=fun z=>e (h1.trans z)
   have b:atKey (q::qs) k=atKey qs k:=by simp [atKey,Zo,e']
   rw [fE e,b]; exact ih
theorem KT.repl {kvs:List (List Key×V)} {xs:List (List Key×Addr×Value)} (r:KT H kvs xs) (k:List Key) (ry:bI y u) :
  KT H (kvs.map fun kv=>if kv.1=k then (kv.1,y) else kv) (xs.map (putAt k u)):=by
 induction r with
 | nil=>exact .nil
 | @cons p q ps qs h t ih =>
  rw [Jk,Jk]
  refine .cons ?_ ih
  obtain ⟨h1,h2,h3⟩:=h
  unfold putAt
  by_cases e:p.1=k
  ·rw [if_pos e,if_pos (h1.symm.trans e)]; exact ⟨h1,h2,ry⟩
  ·rw [if_neg e,if_neg (fun z=>e (h1.trans z))]; exact ⟨h1,h2,h3⟩
theorem KT.put {kvs:List (List Key×V)} {xs:List (List Key×Addr×Value)} (r:KT H kvs xs) (k:List Key) (hb:H b=some (.tup (k.map kV))) (ry:bI y u) :
  KT H (eP kvs k y) (storedH xs k b u):=by
 have e:(kvs.any fun kv=>decide (kv.1=k))=(atKey xs k).isSome:=by
  rw [fG,(r.val k).isSome_eq,Yx]
 unfold eP storedH
 rw [e]
 by_cases q:(atKey xs k).isSome=true
 ·rw [if_pos q,if_pos q]; exact r.repl k ry
 ·rw [if_neg q,if_neg q]; exact Paired.snoc r ⟨rfl,hb,ry⟩
theorem KT.keeps {kvs:List (List Key×V)} {xs:List (List Key×Addr×Value)} (r:KT H kvs xs) (ht:∀ b ys,H b=some (.tup ys)->H' b=some (.tup ys)):KT H' kvs xs :=
 Paired.mapP r fun _ _ z=>⟨z.1,ht _ _ z.2.1,z.2.2⟩
theorem aFg {u:HO} (ok:HOk P w H h) (e:Rd H a u):cO P w H h a u:=e.ok ok
theorem yN (ok:HOk P w H h) (e:Rd H a (.dK kvs)):kvs.length<=sizeLine/\(a==sysModules)=false/\∃ vs,KV kvs vs/\h.DictOf (bL P w) a vs :=
 show cO P w H h a (.dK kvs) from aFg ok e
theorem aGQ (ok:HOk P w H h) (e:H a=some (.dK kvs)):kvs.length<=sizeLine/\(a==sysModules)=false/\∃ vs,KV kvs vs/\h.DictOf (bL P w) a vs:=yN ok (.inl e)
theorem wE {ks:List Key} (ok:HOk P w H h) (e:H a=some (.tup (ks.map kV))):(tupleKind (bL P w)).is h ks a:=by
 obtain ⟨_,its,n,r,e1⟩:=(show cO P w H h a (.tup (ks.map kV)) from ok a _ e)
 exact ⟨_,its.toArray,n,e1,rfl,rfl,by simpa using vE r⟩
theorem aAW {kvs:List (List Key×V)} (ok:HOk P w H h) (e:Rd H a (.dT kvs)):kvs.length<=sizeLine/\(a==sysModules)=false /\
  ∃ xs,KT H kvs xs/\h.DictOfH (tupleKind (bL P w)) a xs:=by
 obtain ⟨z,y,xs,r,o,es,ep,h1,h2,h3,h4,h5⟩:=(show cO P w H h a (.dT kvs) from aFg ok e)
 refine ⟨z,y,xs,r,o,es,ep,h1,h2,h3,h4,fun x hx=>?_,h5⟩
 have all:∀ {l:List (List Key×V)} {m:List (List Key×Addr×Value)},KT H l m->∀ x∈m,(tupleKind (bL P w)).is h x.1 x.2.1:=by
  intro l m q
  induction q with
  | nil=>intro x hx; exact nomatch hx
  | @cons p q ps qs hq t ih =>
   intro x hx
   rcases Qj.mp hx with e | hx
   ·subst e
    exact wE ok (by rw [<- hq.1]; exact hq.2.1)
   ·exact ih x hx
 exact all r x hx
theorem aGR {kvs:List (List Key×V)} (ok:HOk P w H h) (e:H a=some (.dT kvs)):kvs.length<=sizeLine/\(a==sysModules)=false /\
  ∃ xs,KT H kvs xs/\h.DictOfH (tupleKind (bL P w)) a xs:=aAW ok (.inl e)
def sR (H:Hp) (a:Addr) (y:V) (r:Option V):Prop :=
 (∃ kvs k,Rd H a (.dK kvs)/\y=kV k/\r=cB kvs k)∨∃ kvs k b,Rd H a (.dT kvs)/\y=.ref b/\H b=some (.tup (k.map kV))/\r=cB kvs k
def sS (H:Hp) (a:Addr) (y v:V) (H':Hp):Prop :=
 (∃ kvs k,H a=some (.dK kvs)/\y=kV k/\kvs.length < sizeLine/\H'=upd H a (.dK (eP kvs k v))) ∨
 ∃ kvs k b,H a=some (.dT kvs)/\y=.ref b/\H b=some (.tup (k.map kV))/\kvs.length < sizeLine/\H'=upd H a (.dT (eP kvs k v))
theorem sR.k {k:Key} (e:H a=some (.dK kvs)):sR H a (kV k) (cB kvs k):=.inl ⟨kvs,k,.inl e,rfl,rfl⟩
theorem sR.t {kvs:List (List Key×V)} {k:List Key} (e:H a=some (.dT kvs)) (eb:H b=some (.tup (k.map kV))):sR H a (.ref b) (cB kvs k):=.inr ⟨kvs,k,b,.inl e,rfl,eb,rfl⟩
theorem sS.k {k:Key} (e:H a=some (.dK kvs)) (hl:kvs.length < sizeLine):sS H a (kV k) v (upd H a (.dK (eP kvs k v))):=.inl ⟨kvs,k,e,rfl,hl,rfl⟩
theorem sS.t {kvs:List (List Key×V)} {k:List Key} (e:H a=some (.dT kvs)) (eb:H b=some (.tup (k.map kV))) (hl:kvs.length < sizeLine) :
  sS H a (.ref b) v (upd H a (.dT (eP kvs k v))):=.inr ⟨kvs,k,b,e,rfl,eb,hl,rfl⟩
section
variable {σ:St} {r:Value} {o:Option V}
theorem Inv.big (I:Inv X pins σ H s):sysModules < s.heap.objs.size:=by
 have h:mainGlobals < s.heap.objs.size:=(I.mod.glob.keeps I.bk).lt
 exact Nat.lt_trans (by decide) h
theorem vF (hu:A.units+1 < cLine) (I:Inv X pins σ H s) (g:sR H a y (some v)) (ry:bI y u) (h:∀ w' s',Inv X pins σ H s'->bI v w'->Q w' s') :
  wpAny (model X.prog X.w) A (getItem (.ref a) u) Q E s:=by
 rcases g with ⟨kvs,k,e,ey,l⟩ | ⟨kvs,k,b,e,ey,eb,l⟩
 ·subst ey
  obtain ⟨z,hd,vs,rel,dd⟩:=yN I.hok e
  obtain ⟨w',hw,rw'⟩:=rE.some_of (v:=v) (o:=valueAt vs k) (by rw [l]; exact rel.val k)
  exact wpAny_getItem_of (sQ ry) dd.mapOf hw (h w' _ (I.tok _) rw')
 ·subst ey
  cases (show u=Value.ref b from ry)
  obtain ⟨z,hd,xs,rel,dd⟩:=aAW I.hok e
  obtain ⟨w',hw,rw'⟩:=rE.some_of (v:=v) (o:=(atKey xs k).map (·.2)) (by rw [l]; exact rel.val k)
  obtain ⟨p,hp,hp2⟩:=Je.mp hw
  refine wpAny_getItem_heap (tupleKind_room_in1 hu) (wE I.hok eb) dd hp ?_
  rw [hp2]
  exact h w' _ (I.tok _) rw'
theorem aEf (hu:A.units+1 < cLine) (I:Inv X pins σ H s) (g:sR H a y o) (ry:bI y u) (h:∀ s',Inv X pins σ H s'->Q (.bool (!o.isSome)) s') :
  wpAny (model X.prog X.w) A (compareOp .NotIn u (.ref a)) Q E s:=by
 rcases g with ⟨kvs,k,e,ey,l⟩ | ⟨kvs,k,b,e,ey,eb,l⟩
 ·subst ey
  obtain ⟨z,hd,vs,rel,dd⟩:=yN I.hok e
  refine wpAny_notIn_of (sQ ry) hd dd.mapOf ?_
  rw [<- (rel.val k).isSome_eq,<- l]
  exact h _ (I.tok _)
 ·subst ey
  cases (show u=Value.ref b from ry)
  obtain ⟨z,hd,xs,rel,dd⟩:=aAW I.hok e
  refine wpAny_notIn_heap (tupleKind_room_in1 hu) (wE I.hok eb) hd dd ?_
  have q:=(rel.val k).isSome_eq
  rw [Yx] at q
  rw [<- q,<- l]
  exact h _ (I.tok _)
theorem wF {ob:HO} (I:Inv X pins σ H s) (mu:Mut (H a)) (hs:Heap.SameBut a s.heap h') (he:∃ q,h'.get? a=some q) (new:cO X.prog X.w (upd H a ob) h' a ob) :
  Inv X pins σ (upd H a ob) { s with heap:=h',toks:=t' } :=
 I.write (x:=a) (e:=a) mu (.inl rfl) (fun b q hb z=>(hs.2 b hb).trans z) he new
theorem aCT {vs:List (Key×Value)} (z:kvs.length<=sizeLine) (hd:(a==sysModules)=false) (rel:KV kvs vs) (dd:h'.DictOf (bL P w) a vs) :
  cO P w H' h' a (.dK kvs):=⟨z,hd,vs,rel,dd⟩
theorem vG {Q:Unit->Shared->Prop} (hu:A.units+1 < cLine) (I:Inv X pins σ H s) (g:sS H a y v H') (ry:bI y u) (rv:bI v r) (h:∀ s',Inv X pins σ H' s'->Q () s') :
  wpAny (model X.prog X.w) A (setItem (.ref a) u r) Q E s:=by
 rcases g with ⟨kvs,k,e,ey,l,eH⟩ | ⟨kvs,k,b,e,ey,eb,l,eH⟩
 ·subst ey eH
  obtain ⟨z,hd,vs,rel,dd⟩:=aGQ I.hok e
  have hz:vs.length<=sizeLine:=by rw [<- rel.length]; exact z
  have hl:(eP kvs k v).length<=sizeLine:=by have:=jW kvs k v; omega
  refine wpAny_setItem_pairs (hsz:=hz) (sQ ry) dd fun h' dd' hs=>h _ ?_
  have he:∃ q,h'.get? a=some q:=let ⟨q,_,_,hq,_⟩:=dd'; ⟨q,hq⟩
  exact wF I (by rw [e]; exact True.intro) hs he (aCT hl hd (rel.put k rv) dd')
 ·subst ey eH
  cases (show u=Value.ref b from ry)
  obtain ⟨z,hd,xs,rel,dd⟩:=aGR I.hok e
  have hz:xs.length<=sizeLine:=by rw [<- Paired.length rel]; exact z
  have hl:(eP kvs k v).length<=sizeLine:=by have:=jW kvs k v; omega
  refine wpAny_setItem_heap (hsz:=hz) (tupleKind_room_in1 hu) (wE I.hok eb) dd fun h' dd' hs=>h _ ?_
  obtain ⟨q,es,ep,hq,h2,h3,h4,_,h5⟩:=dd'
  refine wF I (by rw [e]; exact True.intro) hs ⟨q,hq⟩ ⟨hl,hd,_,(rel.put k eb rv).keeps fun c ys ec=>?_,q,es,ep,hq,h2,h3,h4,h5⟩
  rw [aK (aGp ec e (fun z=>nomatch z))]
  exact ec
end
section
variable {σ:St} {k:Key}
end
def aGS (i:Expr):Prop:=∀ ov iv,subscripted i false ov iv=operate [ov,iv] (getItem ov iv)
theorem aEg {env:Env} {slice:Expr} {pos:Pos} {id:String} (hl:typeLookup (.type T) "__getitem__" = pure (some (.builtin id))) (hs:aGS slice) (h:wpAny (model prog w) A (eval value env) (fun o s₁=>wpAny (model prog w) A (eval slice env) (fun i s₂=>s₂.TypeIs o T/\wpAny (model prog w) A (getItem o i) Q E s₂) E s₁) E s) :
  wpAny (model prog w) A (eval (.Subscript value slice pos) env) Q E s:=by
 refine Subscript_ (wpAny_mono h (fun o s₁ h₁=>wpAny_mono h₁ (fun i s₂ h₂=>?_) fun _ _ x=>x) fun _ _ x=>x)
 obtain ⟨hT,h₂⟩:=h₂
 unfold subscriptTail
 refine wpAny_bind ?_
 rw [getitemInPython_of_ne hT.not_modules]
 refine wpAny_bind (wpAny_specialOf hT hl ?_)
 have fin:wpAny (model prog w) A (subscripted slice false o i) (fun r s₃=>wpAny (model prog w) A (letTemporaryGo value o r >>= fun _=>pure r) Q E s₃) E s₂:=by
  rw [hs o i]
  exact wpAny_operating (wpAny_mono h₂ (fun r s₃ h₃=>wpAny_bind (wpAny_letTemporaryGo (wpAny_pure h₃))) fun _ _ x=>x)
 first
  | exact wpAny_pure (wpAny_bind fin)
  | exact wpAny_bind (wpAny_pure (wpAny_bind fin))
  | exact wpAny_bind fin
theorem yO {σ:St} {o:Option V} (I:Inv X pins σ H s) (g:sR H a y o):s.TypeIs (.ref a) "dict" := by
 rcases g with ⟨kvs,k,e,_,_⟩ | ⟨kvs,k,b,e,_,_,_⟩
 ·obtain ⟨_,_,vs,_,dd⟩:=yN I.hok e
  exact dd.typeIs
 ·obtain ⟨_,_,xs,_,dd⟩:=aAW I.hok e
  exact dd.typeIs
def aGT (td ty:TE):TE:=fun σ H Q=>td σ H fun x H1=>ty σ H1 fun y H2=>∃ a v,x=.ref a/\sR H2 a y (some v)/\Q v H2
def aEh (ty td:TE):TE:=fun σ H Q=>ty σ H fun y H1=>td σ H1 fun x H2=>∃ a o,x=.ref a/\sR H2 a y o/\Q (.bl (!o.isSome)) H2
def aGU (td ty tv:TE):TS:=fun D σ H=>tv σ H fun v H1=>td σ H1 fun x H2=>ty σ H2 fun y H3=>∃ a H4,x=.ref a/\sS H3 a y v H4/\D.nx σ H4
def aGV (td ty tv:TE) (rd:V->V->Hp->VK->Prop):TS:=fun D σ H=>td σ H fun x H1=>ty σ H1 fun y H2=>∃ a v,x=.ref a/\sR H2 a y (some v) /\
 tv σ H2 fun y2 H3=>rd v y2 H3 fun z H4=>∃ H5,sS H4 a y z H5/\D.nx σ H5
section
variable {o i:Expr} {pos:Pos} {ty:TE}
theorem lJ (hu:X.A.units+1 < cLine) (ho:PE X o td) (hi:PE X i ty) (hs:aGS i):PE X (.Subscript o i pos) (aGT td ty):=by
 intro pins s σ H Q I h
 refine aEg PySem.F.slot_dict_getitem.lookup hs (thn (ho pins s σ H _ I h) fun u s1 ⟨x,H1,I1,rx,q1⟩=>thn (hi pins s1 σ H1 _ I1 q1) fun iv s2 hx9=>?_)
 obtain ⟨y,H2,I2,ry,a,v,ex,g,q2⟩:=hx9
 subst ex
 obtain rfl:u=Value.ref a:=rx
 exact ⟨yO I2 g,vF hu I2 g ry fun w' s3 I3 rw'=>⟨v,H2,I3,rw',q2⟩⟩
theorem aBP (hu:X.A.units+1 < cLine) (hi:PE X i ty) (ho:PE X o td):PC X .NotIn i o (aEh ty td):=by
 intro pins s σ H Q I h
 refine thn (hi pins s σ H _ I h) fun iv s1 ⟨y,H1,I1,ry,q1⟩=>thn (ho pins s1 σ H1 _ I1 q1) fun u s2 hx9=>?_
 obtain ⟨x,H2,I2,rx,a,ov,ex,g,q2⟩:=hx9
 subst ex
 obtain rfl:u=Value.ref a:=rx
 exact aEf hu I2 g ry fun s3 I3=>⟨.bl (!ov.isSome),H2,I3,rfl,q2⟩
theorem wG (hu:X.A.units+1 < cLine) (ho:PE X o td) (hi:PE X i ty) (hv:PE X value tv) (hs:swapsWith value (some (.Subscript o i pos')) pos.line X.env=pure false) :
  PS X (.Assign [.Subscript o i pos'] value pos) (aGU td ty tv):=by
 intro pins s σ H D I h
 refine wpAny_Assign_Subscript (thn (hv pins s σ H _ I h) fun r s1 ⟨v,H1,I1,rv,q1⟩=>thn (ho pins s1 σ H1 _ I1 q1) fun u s2 ⟨x,H2,I2,rx,q2⟩=>thn (hi pins s2 σ H2 _ I2 q2) fun iv s3 hx9=>?_) hs
 obtain ⟨y,H3,I3,ry,a,H4,ex,g,q3⟩:=hx9
 subst ex
 obtain rfl:u=Value.ref a:=rx
 exact vG hu I3 g ry rv fun s4 I4=>⟨σ,H4,I4,q3⟩
theorem aEi {op:Operator} {rd:V->V->Hp->VK->Prop} (hu:X.A.units+1 < cLine) (ho:PE X o td) (hi:PE X i ty) (hv:PE X value tv) (hop:aGF X op rd)
  (ha:∀ ov iv new,augStore i ov iv new=(do holding [new,ov,iv] (setItem ov iv new); release [new,ov,iv] []; pure .next)):PS X (.AugAssign (.Subscript o i tpos) op value pos) (aGV td ty tv rd):=by
 intro pins s σ H D I h
 refine wpAny_AugAssign_SubscriptAny (thn (ho pins s σ H _ I h) fun u s1 ⟨x,H1,I1,rx,q1⟩=>thn (hi pins s1 σ H1 _ I1 q1) fun iv s2 hx9=>?_) ha
 obtain ⟨y,H2,I2,ry,a,v,ex,g,q2⟩:=hx9
 subst ex
 obtain rfl:u=Value.ref a:=rx
 refine vF hu I2 g ry fun w' s3 I3 rw'=>thn (hv pins s3 σ H2 _ I3 q2) fun w2 s4 ⟨y2,H3,I4,ry2,q3⟩=>thn (hop pins s4 σ H3 v y2 w' w2 _ I4 rw' ry2 q3) fun w3 s5 hx9=>?_
 obtain ⟨z,H4,I5,rz,H5,g5,q4⟩:=hx9
 exact vG hu I5 g5 ry rz fun s6 I6=>⟨σ,H5,I6,q4⟩
end
theorem yP (h:Heap) (hb:sysModules < h.objs.size):cO P w H (h.push { cls:=.type "dict",data:=.dict #[] }) h.objs.size (.dK []) :=
 ⟨Jj _,beq_eq_false_iff_ne.mpr (Ne.symm (Jp hb)),[],.nil,Heap.DictOf.new h⟩
def aFT:TE:=fun _ H Q=>∀ p,H p=none->Q (.ref p) (upd H p (.dK []))
section
variable {pos:Pos}
theorem aCU:PE X (.Dict [] [] pos) aFT:=fun pins s σ H Q I h =>
 wpAny_Dict_empty ⟨.ref s.heap.objs.size,_,I.laid (a:=s.heap.objs.size) (o:=.dK []) (t':=s.toks) (fun _ _ q=>Qa _ q) (Qg _) (yP s.heap I.big),rfl,h _ (I.hok.fresh (Qg _))⟩
end
def NF (H0:Hp) (a:Addr):Prop:=∀ o u,H0 a≠some (.frz o u)
section
variable {σ:St}
theorem Inv.freeze (I:Inv X pins σ H s) (e:H a=some (.dK kvs)) (ho:s.heap.get? a=some o):Inv X pins σ (upd H a (.frz o (.dK kvs))) s:=by
 have m:Mut (H a):=by rw [e]; trivial
 have q:cO X.prog X.w H s.heap a (.dK kvs):=I.hok a _ e
 exact I.write (x:=a) (e:=a) (t':=s.toks) m (.inl rfl) (fun b u _ z=>z) ⟨o,ho⟩ ⟨ho,q⟩
theorem Inv.nf (I:Inv X pins σ H s) (e:H a=some (.dK kvs)):NF X.H₀ a:=fun o u z=>by
 have:=I.base.frzs a o u z
 rw [e] at this; cases this
theorem Inv.thaw (I:Inv X pins σ H s) (e:H a=some (.frz o (.dK kvs))) (nf:NF X.H₀ a):Inv X pins σ (upd H a (.dK kvs)) s:=by
 have ne:∀ b,H b=none->b≠a:=fun b n z=>by rw [z,e] at n; cases n
 have nt:∀ b xs,H b=some (.tup xs)->b≠a:=fun b xs n z=>by rw [z,e] at n; cases n
 have no:∀ b x,H b=some (.own x)->b≠a:=fun b xs n z=>by rw [z,e] at n; cases n
 obtain ⟨ho,q⟩:s.heap.get? a=some o/\cO X.prog X.w H s.heap a (.dK kvs):=I.hok a _ e
 have un:Un X.fs X.ex X.H₀ (upd H a (.dK kvs)) X.s₀.heap s.heap:=by
  refine ⟨I.base.keep,I.base.slot,fun b ob q n hx=>?_,I.base.there,fun b xs q=>?_,fun b ob u q=>?_,fun b ps q=>?_⟩
  ·have z:=I.base.free b ob q n hx
   rw [aK (ne b z)]; exact z
  ·have z:=I.base.tups b xs q
   rw [aK (nt b xs z)]; exact z
  ·have z:=I.base.frzs b ob u q
   have n:b≠a:=fun y=>nf ob u (y ▸ q)
   rw [aK n]; exact z
  ·obtain ⟨m,z⟩:=I.base.tbls b ps q
   have n:b≠a:=fun y=>by rw [y,e] at z; cases z
   exact ⟨m,by rw [aK n]; exact z⟩
 refine ⟨I.ok,I.os,I.bare,un,I.loc,I.cell,?_,fun x c h=>?_,fun p hp=>?_,fun b u h=>?_,I.len⟩
 ·rw [aK (ne _ I.free)]; exact I.free
 ·have z:=I.freeC x c h
  rw [aK (ne _ z)]; exact z
 ·obtain ⟨p1,p2,p3⟩:=I.pin p hp
  exact ⟨p1,by rw [aK (ne _ p2)]; exact p2,p3⟩
 ·by_cases hb:b=a
  ·subst hb
   rw [aB] at h
   cases h
   exact cO.stay q (fun _ _ _ z=>z) (fun c z=>by rw [aK (no c _ z)]; exact z) (fun c xs z=>by rw [aK (nt c xs z)]; exact z)
  ·rw [aK hb] at h
   exact cO.stay (I.hok b u h) (fun _ _ _ z=>z) (fun c z=>by rw [aK (no c _ z)]; exact z) (fun c xs z=>by rw [aK (nt c xs z)]; exact z)
end
def Itd (a:Addr) (o:Obj) (kvs:List (Key×V)):It :=
 ⟨fun i H=>H a=some (.frz o (.dK kvs))/\i < kvs.length,fun i H x H'=>H'=H/\∃ p,kvs[i]?=some p/\x=kV p.1,fun i H=>H a=some (.frz o (.dK kvs))/\i=kvs.length⟩
theorem aCV {k:Key} (h:(bL P w).is k u=true):bI (kV k) u:=by
 rcases dE h with ⟨i,t,rfl,rfl⟩ | ⟨x,t,rfl,rfl⟩
 ·exact ⟨t,rfl⟩
 ·exact ⟨t,rfl⟩
theorem pZ {es:Array DictEntry} {vs:List (Key×Value)} (ho:h.get? a=some o) (hd:o.data=.dict es ep) (d:h.DictOf (bL P w) a vs):h.DictAt (bL P w) a vs ep:=by
 obtain ⟨o',es',ep',q1,q2,q3,r⟩:=d
 rw [ho] at q1; cases q1
 rw [hd] at q3; cases q3
 exact ⟨o,es,ho,q2,hd,r⟩
theorem aBQ (a it:Addr) (o:Obj) (es:Array DictEntry) (ep:Nat) (hd:o.data=.dict es ep) (kvs:List (Key×V)) :
  Turn P w K tg (Itd a o kvs) [it] it (fun i h=>h.IsKeyIter it a i kvs.length ep) where
 mem:=by simp
 obj:=fun i h st b hb=>by
  have e:b=it:=by simpa using hb
  subst e
  obtain ⟨o,e,c,d⟩:=st
  exact ⟨o,e,fun v z=>by rw [d] at z; cases z⟩
 keep:=fun i h h' st k=>st.at fun o e=>k it (by simp) o e
 item:=by
  intro X hP hw hK hc i pins s σ H E I hf st hg
  subst hP hw hK
  obtain ⟨hA,hi⟩:=hg
  obtain ⟨ho,hz,hs,vs,kv,dd⟩:s.heap.get? a=some o/\cO X.prog X.w H s.heap a (.dK kvs):=I.hok a _ hA
  have da:=pZ ho hd dd
  have hl:kvs.length=vs.length:=kv.length
  obtain ⟨f0,f1,f2,f3,f4,f5⟩:=hf it (by simp)
  obtain ⟨⟨k,x⟩,hx⟩:∃ p,vs[i]?=some p:=⟨vs[i]'(by omega),by simp⟩
  rw [hl] at st
  refine wpAny_pyNext_dict_item st da hx fun key h' hkey st' sb=>?_
  have I1:Inv X pins σ H { s with heap:=h' }:=I.turned (t':=s.toks) (fun b o hb e=>(sb.2 b hb).trans e) f0 f1 f3 f4 f5
  obtain ⟨o',e',c',d'⟩:=id st'
  have hk:kvs[i]?=some (kvs[i]):=Qc hi
  have hkk:(kvs[i]).1=k:=by
   have e:=kv.keys
   have e1:(kvs.map (·.1))[i]?=some (kvs[i]).1:=by rw [Qh,hk]; rfl
   have e2:(vs.map (·.1))[i]?=some k:=by rw [Qh,hx]; rfl
   rw [e,e2] at e1
   exact (Option.some.inj e1).symm
  rw [<- hl] at st'
  exact ⟨key,rfl,aAH (s:={ s with heap:=h' }) e' c' d' (by decide) ⟨kV k,H,I1,aCV hkey,⟨rfl,_,hk,by rw [hkk]⟩,st',fun b hb=>(hf b hb).1⟩⟩
 done:=by
  intro X hP hw hK hc i pins s σ H E I hf st hg
  subst hP hw hK
  obtain ⟨hA,hi⟩:=hg
  obtain ⟨ho,hz,hs,vs,kv,dd⟩:s.heap.get? a=some o/\cO X.prog X.w H s.heap a (.dK kvs):=I.hok a _ hA
  have da:=pZ ho hd dd
  have hl:kvs.length=vs.length:=kv.length
  obtain ⟨f0,f1,f2,f3,f4,f5⟩:=hf it (by simp)
  rw [hl] at st
  exact wpAny_pyNext_dict_end (I.ok.hd hc) st da (by simp; omega) fun h' eb=>⟨rfl,I.turned (t':=s.toks) (fun b o hb e=>eb b o hb e) f0 f1 f3 f4 f5⟩
 self:=fun _ _ _ _ _ st h=>wpAny_pyIter_keyiter st h
def aGW (H0:Hp) (td:TE):TI:=fun σ H R=>td σ H fun x H1=>∃ a kvs,x=.ref a/\H1 a=some (.dK kvs)/\∀ o,NF H0 a->R (Itd a o kvs) (upd H1 a (.frz o (.dK kvs)))
theorem wH {d:Expr} (hl:PE X d td):PI X tg d (aGW X.H₀ td):=by
 intro pins s σ H R I h
 refine thn (hl pins s σ H _ I h) fun v s1 hx9=>?_
 obtain ⟨x,H1,I1,r1,q1⟩:=hx9
 obtain ⟨a,kvs,e,hq,q⟩:=q1
 subst e
 cases r1
 obtain ⟨hz,hs,vs,kv,dd⟩:cO X.prog X.w H1 s1.heap a (.dK kvs):=I1.hok a _ hq
 obtain ⟨o,es,ep,ho,oe,hd,r⟩:=id dd
 have da:=pZ ho hd dd
 refine wpAny_pyIter_dict hs da ?_
 have I2:=(I1.freeze hq ho).kept (h':=s1.heap.push { cls:=.type "dict_keyiterator",data:=.fields #[.ref a,.int 0 0,.int vs.length 0,.int ep 0] }) (t':=s1.toks) fun b o e=>Qa _ e
 have nA:a≠s1.heap.objs.size:=Jp (Qo ho)
 refine ⟨s1.heap.objs.size,[s1.heap.objs.size],_,_,_,rfl,I2,aBQ a _ o es ep hd kvs,?_,fun b hb=>?_,q o (I1.nf hq)⟩
 ·refine ⟨_,Qm _ rfl,rfl,?_⟩
  rw [kv.length]; rfl
 ·have e:b=s1.heap.objs.size:=by simpa using hb
  subst e
  exact I1.fpOk (Qg _) (by rw [aK (Ne.symm nA)]; exact I1.hok.fresh (Qg _))
def aGX (H0:Hp) (t:TS):TS:=fun D σ H=>t { D with nx:=fun σ' H'=>∃ a o kvs,H' a=some (.frz o (.dK kvs))/\NF H0 a/\D.nx σ' (upd H' a (.dK kvs)) } σ H
theorem aAX {t:TS} (h:PS X st t):PS X st (aGX X.H₀ t):=by
 intro pins s σ H D I q
 refine thn (h pins s σ H _ I q) fun f s1 z=>?_
 cases f with
 | next =>
  obtain ⟨σ',H',I',a,o,kvs,e,nf,k⟩:=z
  exact ⟨σ',_,I'.thaw e nf,k⟩
 | brk=>exact z
 | cont=>exact z
 | ret u=>exact z
theorem yQ {tb:TS} {σ:St} (Pv:Nat->St->Hp->Prop) (h0:Pv 0 σ H) (hl:∀ i σ H,i<=kvs.length->Pv i σ H->H a=some (.frz o (.dK kvs))) (hs:∀ i p σ H,kvs[i]?=some p->Pv i σ H->g (kV p.1) σ H fun σ2 H2=>tb { D with nx:=Pv (i+1),ct:=Pv (i+1),bk:=D.nx } σ2 H2) (hd:∀ σ H,Pv kvs.length σ H->D.nx σ H) :
  ∃ W:Nat->Nat->St->Hp->Prop,(∃ m,W 0 m σ H)/\∀ i m σ H,W i m σ H ->
   ((Itd a o kvs).stop i H/\D.nx σ H)∨((Itd a o kvs).go i H/\∃ N:St->Hp->Prop,(∀ σ' H',N σ' H'->∃ m',m' < m/\W (i+1) m' σ' H')/\∀ x H',(Itd a o kvs).yld i H x H'->g x σ H' fun σ2 H2=>tb { D with nx:=N,ct:=N,bk:=D.nx } σ2 H2):=by
 refine ⟨fun i m σ H=>m=kvs.length - i/\i<=kvs.length/\Pv i σ H,⟨kvs.length,by simp,Jj _,h0⟩,?_⟩
 rintro i m σ H ⟨rfl,hi,p⟩
 have q:=hl i σ H hi p
 by_cases hlt:i < kvs.length
 ·refine .inr ⟨⟨q,hlt⟩,Pv (i+1),fun σ' H' p'=>⟨kvs.length - (i+1),by omega,rfl,hlt,p'⟩,fun x H' y=>?_⟩
  obtain ⟨rfl,v,hv,rfl⟩:=y
  exact hs i v σ H' hv p
 ·have e:i=kvs.length:=by omega
  subst e
  exact .inl ⟨⟨q,rfl⟩,hd σ H p⟩
def aFU (tk tv:TE):TE:=fun σ H Q=>∀ p,H p=none->tk σ (upd H p (.dK [])) fun x H1=>tv σ H1 fun y H2=>∃ k,x=kV k/\H2 p=some (.dK [])/\Q (.ref p) (upd H2 p (.dK [(k,y)]))
section
variable {pos:Pos} {ek ev:Expr} {tk:TE}
theorem yR (hk:PE X ek tk) (hv:PE X ev tv) (he:evalEachOpt [some ek] X.env = [some (eval ek X.env)]:=by rfl) (he2:evalEach [ev] X.env = [eval ev X.env]:=by rfl):PE X (.Dict [some ek] [ev] pos) (aFU tk tv):=by
 intro pins s σ H Q I h
 have I0:Inv X pins σ (upd H s.heap.objs.size (.dK [])) { s with heap:=s.heap.push { cls:=.type "dict",data:=.dict #[] } }:=I.laid (a:=s.heap.objs.size) (o:=.dK []) (t':=s.toks) (fun _ _ q=>Qa _ q) (Qg _) (yP s.heap I.big)
 have h0:=h s.heap.objs.size (I.hok.fresh (Qg _))
 refine wpAny_Dict_pairs (knd:=bL X.prog X.w) (pairs:=[(eval ek X.env,do let x<-eval ev X.env; standAt pos; pure x)]) (by rw [he,he2]; rfl) (by simp) (by simp) ?_
 refine evalPairs_cons (thn (hk pins _ σ _ _ I0 h0) fun kv s1 hx9=>?_)
 obtain ⟨x,H1,I1,r1,q1⟩:=hx9
 refine wpAny_bind (thn (hv pins _ σ _ _ I1 q1) fun vv s2 hx9=>?_)
 obtain ⟨y,H2,I2,r2,q2⟩:=hx9
 refine wpAny_bind (wpAny_standAt (wpAny_pure (evalPairs_nil ?_)))
 obtain ⟨k,rfl,hp,q⟩:=q2
 obtain ⟨hz,hs,vs,kv',dd⟩:cO X.prog X.w H2 s2.heap s.heap.objs.size (.dK []):=I2.hok _ _ hp
 have ev0:vs = []:=by
  have:=kv'.length
  exact Wc.mp this.symm
 subst ev0
 refine ⟨[(k,vv)],⟨sQ r1,rfl,trivial⟩,dd,fun h' dd' sb=>?_⟩
 have em:merged ([]:List (Key×Value)) [(k,vv)] = [(k,vv)]:=by simp [merged,stored]
 rw [em] at dd'
 obtain ⟨o',es',ep',ho',_⟩:=id dd'
 have mu:Mut (H2 s.heap.objs.size):=by rw [hp]; trivial
 refine ⟨.ref s.heap.objs.size,_,wF (t':=s2.toks+1) I2 mu sb ⟨_,ho'⟩ (aCT (kvs:=[(k,y)]) (by simp [sizeLine_eq]) hs (.cons ⟨rfl,r2⟩ .nil) dd'),rfl,q⟩
end
def qA (h:Heap) (u:Value) (i:Int) (v:Value):Prop:=∃ p,u=.ref p/\((∃ its:Array Value,h.IsTuple p its/\0<=i/\i < 1000/\its[i.toNat]?=some v)∨∃ its:Array Value,h.IsList p its/\0<=i/\i < 1000/\its[i.toNat]?=some v)
theorem qA.keeps {i:Int} {v:Value} (x:qA h u i v) (k:∀ b o,h.get? b=some o->h'.get? b=some o):qA h' u i v:=by
 obtain ⟨p,rfl,⟨its,⟨o,ho,r⟩,q⟩ | ⟨its,⟨o,ho,r⟩,q⟩⟩:=x
 ·exact ⟨p,rfl,.inl ⟨its,⟨o,k _ _ ho,r⟩,q⟩⟩
 ·exact ⟨p,rfl,.inr ⟨its,⟨o,k _ _ ho,r⟩,q⟩⟩
theorem wI {i:Int} (h0:0<=i) (h1:i.toNat < n):seqIndex? i n=some i.toNat:=by
 unfold seqIndex?
 have e:¬ (i < 0):=by omega
 simp only [e,if_false]
 have e2:(decide (0<=i) && decide (i < (n:Int)))=true:=by simp; omega
 rw [if_pos e2]
section
variable {I:Addr} {wr:List Addr} {Pv:Nat->Value->Prop} {St:Nat->Heap->Prop} {kf:Nat->Int} {L:List (Addr×Obj)}
end
structure Lm (K:PySem.W.Frag) (mg:Str->Option Value) (base:Heap) (c P:Addr):Prop where
 hd:PySem.W.codeHdIn K c P=true
 gP:mainGlobals≠P
 bu:base.BuiltinsAt mg P
section
variable {σ:St} {c P c':Addr} {q:Str} {ps:Array Value}
end
section
variable {σ:St}
theorem qA.obj {i:Int} {v:Value} (x:qA h u i v):∃ p o,u=.ref p/\h.get? p=some o/\∀ h':Heap,h'.get? p=some o->qA h' u i v:=by
 obtain ⟨p,rfl,⟨its,⟨o,ho,r⟩,q⟩ | ⟨its,⟨o,ho,r⟩,q⟩⟩:=x
 ·exact ⟨p,o,rfl,ho,fun h' e=>⟨p,rfl,.inl ⟨its,⟨o,e,r⟩,q⟩⟩⟩
 ·exact ⟨p,o,rfl,ho,fun h' e=>⟨p,rfl,.inr ⟨its,⟨o,e,r⟩,q⟩⟩⟩
end
abbrev cM (h:Heap) (z TI TO:Addr) (f0:Value) (f1:Bool):Prop :=
 h.get? z=some { cls:=.type "zip",dict:=none,data:=.fields #[f0,.bool f1,.bool false,.ref TI,.ref TO],slots:=#[] }
def F0 (f:Value):Prop:=f=.none∨∃ a t,f=.int a t
theorem yS {Q:Option Obj->Shared->Prop} (h:Q (s.heap.get? a) s):wpAny M A (loadIfAlive a) Q E s:=fun Γ p _=>by
 show Sem.wp M Γ (.loadIfAlive a .pure) _ _ p s
 rw [Sem.wp_loadIfAlive]
 exact (Sem.wp_pure ..).mpr h
section
variable {TI TO:Addr} {n1:Nat}
theorem wJ {Q:Bool->Shared->Prop} (hz:cM s.heap z TI TO f0 f1) (hf:F0 f0) (h1:Q true s) (h2:∀ h' b,cM h' z TI TO f0 b->Heap.SameBut z s.heap h'->Q false { s with heap:=h' }) :
  wpAny (model prog w) A (Builtin.SmallTypes.ownedTupleIsFree (.ref z)) Q E s:=by
 unfold Builtin.SmallTypes.ownedTupleIsFree
 rcases hf with rfl | ⟨a,t,rfl⟩
 ·exact wpAny_bind (wpAny_field hz rfl (x:=.none) rfl (wpAny_pure h1))
 ·refine wpAny_bind (wpAny_field hz rfl (x:=.int a t) rfl ?_)
  show wpAny (model prog w) A (loadIfAlive a.toNat >>= _) Q E s
  refine wpAny_bind (yS ?_)
  cases hq:s.heap.get? a.toNat with
  | none=>exact wpAny_pure h1
  | some o =>
   show wpAny (model prog w) A (field (.ref z) 1 >>= _) Q E s
   refine wpAny_bind (wpAny_field hz rfl (x:=.bool f1) rfl ?_)
   cases f1 with
   | true=>exact wpAny_pure (h2 s.heap true hz (Heap.SameBut.refl _ _))
   | false =>
    show wpAny (model prog w) A (setField (.ref z) 1 (.bool true) >>= _) Q E s
    refine wpAny_bind (wpAny_setField_rec hz (by simp) fun g hg b=>wpAny_pure (h2 g true hg b))
theorem aCW {k:Nat} {a b:Value} (D:ZipApart z TI TO i1 i2 l1 l2) (S1:Sub prog w i1 l1 n1 P1 st1) (S2:Sub prog w i2 l2 n2 P2 st2) (hz:cM s.heap z TI TO f0 f1) (hf:F0 f0) (hTI:IsPair s.heap TI (.ref i1) (.ref i2)) (hTO:IsPair s.heap TO a b) (h1:st1 k s.heap) (h2:st2 k s.heap) (k1:k < n1) (k2:k < n2) (hQ:∀ h' x y f0' f1',P1 k x->P2 k y->F0 f0'->cM h' z TI TO f0' f1'->(∃ a b,IsPair h' TO a b)->st1 (k+1) h'->st2 (k+1) h'->IsPair h' s.heap.objs.size x y->h'.objs.size=s.heap.objs.size+1 ->
   (∀ c o,c≠z->c≠TO->c≠i1->c≠i2->s.heap.get? c=some o->h'.get? c=some o)->Q (.ref s.heap.objs.size) { s with heap:=h' }) :
  wpAny (model prog w) A (Builtin.«zip.__next__» ⟨[.ref z],[]⟩) (fun fin s'=>∃ v,fin=.done (.ret v)/\Q v s') E s:=by
 refine wpAny_bind (m:=field (.ref z) 2) (wpAny_field hz rfl (x:=.bool false) rfl ?_)
 refine wpAny_bind (m:=field (.ref z) 3) (wpAny_field hz rfl (x:=.ref TI) rfl ?_)
 refine wpAny_bind (wpAny_seqItems hTI rfl ?_)
 refine wpAny_bind (m:=Builtin.SmallTypes.ownedTupleIsFree (.ref z)) (wJ hz hf ?_ fun h0 fb hz0 b0=>?_)
 ·simp only [if_true]
  refine wpAny_bind (wpAny_rule ?_)
  refine wpAny_bind (wpAny_field hz rfl (x:=.ref TO) rfl ?_)
  refine wpAny_bind (wpAny_setField_rec hz (by simp) fun g1 hz1 b1=>?_)
  have hz1':cM g1 z TI TO .ellipsis f1:=hz1
  refine wpAny_bind ?_
  simp only [Zk,Zn,Xn,Xq]
  have s1:st1 k g1:=S1.keep _ _ _ h1 fun c hc o e=>b1.extBut c o (by rcases hc with r | r <;> rw [r]; exact D.i1z; exact D.l1z) e
  refine wpAny_bind (wpAny_bind (wpAny_onRaise ?_))
  refine wpAny_bind (m:=Builtin.SmallTypes.nextOf (.ref i1)) (S1.item _ k _ _ _ k1 s1 fun x g2 px t1 b2=>wpAny_pure ?_)
  have o2:IsPair g2 TO a b:=b2.extBut _ _ D.TOi1 (b1.extBut _ _ D.TOz hTO)
  refine wpAny_bind (wpAny_seqItems o2 rfl ?_)
  refine wpAny_bind (wpAny_updateSeq_pair o2 fun g3 o3 b3=>?_)
  have o3':IsPair g3 TO x b:=o3
  refine wpAny_bind (wpAny_letGo (wpAny_pure ?_))
  have s2:st2 k g3:=S2.keep _ _ _ h2 fun c hc o e=>by
   rcases hc with r | r
   ·rw [r] at e ⊢; exact b3.extBut _ _ D.TOi2.symm (b2.extBut _ _ D.i12.symm (b1.extBut _ _ D.i2z e))
   ·rw [r] at e ⊢; exact b3.extBut _ _ D.l2TO (b2.extBut _ _ D.l2i1 (b1.extBut _ _ D.l2z e))
  refine wpAny_bind (wpAny_bind (wpAny_onRaise ?_))
  refine wpAny_bind (m:=Builtin.SmallTypes.nextOf (.ref i2)) (S2.item _ k _ _ _ k2 s2 fun y g4 py t2 b4=>wpAny_pure ?_)
  have o4:IsPair g4 TO x b:=b4.extBut _ _ D.TOi2 o3'
  refine wpAny_bind (wpAny_seqItems o4 rfl ?_)
  refine wpAny_bind (wpAny_updateSeq_pair o4 fun g5 o5 b5=>?_)
  have o5':IsPair g5 TO x y:=o5
  refine wpAny_bind (wpAny_letGo (wpAny_pure (wpAny_pure ?_)))
  refine wpAny_bind (wpAny_seqItems o5' rfl ?_)
  refine wpAny_bind (wpAny_newTuple ?_)
  have sz:g5.objs.size=s.heap.objs.size:=by rw [b5.1,b4.1,b3.1,b2.1,b1.1]
  have z5:cM g5 z TI TO .ellipsis f1:=b5.extBut _ _ D.TOz.symm (b4.extBut _ _ D.i2z.symm (b3.extBut _ _ D.TOz.symm (b2.extBut _ _ D.i1z.symm hz1')))
  have kp5:∀ c o,c≠z->c≠TO->c≠i1->c≠i2->s.heap.get? c=some o->g5.get? c=some o:=fun c o c1 c2 c3 c4 e =>
   b5.extBut _ _ c2 (b4.extBut _ _ c4 (b3.extBut _ _ c2 (b2.extBut _ _ c3 (b1.extBut _ _ c1 e))))
  have t1':st1 (k+1) g5:=S1.keep _ _ _ t1 fun c hc o e=>by
   rcases hc with r | r
   ·rw [r] at e ⊢; exact b5.extBut _ _ D.TOi1.symm (b4.extBut _ _ D.i12 (b3.extBut _ _ D.TOi1.symm e))
   ·rw [r] at e ⊢; exact b5.extBut _ _ D.l1TO (b4.extBut _ _ D.l1i2 (b3.extBut _ _ D.l1TO e))
  have t2':st2 (k+1) g5:=S2.keep _ _ _ t2 fun c hc o e=>by
   rcases hc with r | r
   ·rw [r] at e ⊢; exact b5.extBut _ _ D.TOi2.symm e
   ·rw [r] at e ⊢; exact b5.extBut _ _ D.l2TO e
  have zlt:g5.objs.size≠z:=Zy (Qo z5)
  refine wpAny_bind (m:=Builtin.SmallTypes.ownedTupleHandOut (.ref z) (.ref g5.objs.size)) ?_
  unfold Builtin.SmallTypes.ownedTupleHandOut
  have z6:cM (g5.push { cls:=.type "tuple",data:=.seq #[x,y] }) z TI TO .ellipsis f1:=Qa _ z5
  refine wpAny_bind (wpAny_setField_rec z6 (by simp) fun g7 z7 b7=>?_)
  have z7':cM g7 z TI TO (rawInt g5.objs.size) f1:=z7
  refine wpAny_setField_rec z7' (by simp) fun g8 z8 b8=>?_
  have z8':cM g8 z TI TO (rawInt g5.objs.size) false:=z8
  have up:∀ c o,c≠z->g5.get? c=some o->g8.get? c=some o:=fun c o c1 e=>b8.extBut _ _ c1 (b7.extBut _ _ c1 (Qa _ e))
  have T8:IsPair g8 g5.objs.size x y:=b8.extBut _ _ zlt (b7.extBut _ _ zlt (Qm _ rfl))
  have sz8:g8.objs.size=s.heap.objs.size+1:=by rw [b8.1,b7.1,Jl,sz]
  rw [sz] at z8' T8
  refine wpAny_pure ⟨_,rfl,?_⟩
  show Q (.ref g5.objs.size) _
  rw [sz]
  refine hQ g8 x y _ _ px py (.inr ⟨_,_,rfl⟩) z8' ⟨_,_,up _ _ D.TOz o5'⟩ (S1.keep _ _ _ t1' fun c hc o e=>up c o (by rcases hc with r | r <;> rw [r]; exact D.i1z; exact D.l1z) e) (S2.keep _ _ _ t2' fun c hc o e=>up c o (by rcases hc with r | r <;> rw [r]; exact D.i2z; exact D.l2z) e) T8 sz8 fun c o c1 c2 c3 c4 e=>up c o c1 (kp5 c o c1 c2 c3 c4 e)
 ·simp only [Xl,if_false]
  have s1:st1 k h0:=S1.keep _ _ _ h1 fun c hc o e=>b0.extBut c o (by rcases hc with r | r <;> rw [r]; exact D.i1z; exact D.l1z) e
  rw [<- Array.forIn_toList]
  simp only [Xn,Xq]
  refine wpAny_bind (wpAny_bind (wpAny_bind (wpAny_holding ?_)))
  refine wpAny_bind (m:=Builtin.SmallTypes.nextOf (.ref i1)) (S1.item _ k _ _ _ k1 s1 fun x g2 px t1 b2=>wpAny_pure ?_)
  refine wpAny_pure ?_
  have s2:st2 k g2:=S2.keep _ _ _ h2 fun c hc o e=>by
   rcases hc with r | r
   ·rw [r] at e ⊢; exact b2.extBut _ _ D.i12.symm (b0.extBut _ _ D.i2z e)
   ·rw [r] at e ⊢; exact b2.extBut _ _ D.l2i1 (b0.extBut _ _ D.l2z e)
  refine wpAny_bind (wpAny_bind (wpAny_holding ?_))
  refine wpAny_bind (m:=Builtin.SmallTypes.nextOf (.ref i2)) (S2.item _ k _ _ _ k2 s2 fun y g4 py t2 b4=>wpAny_pure ?_)
  refine wpAny_pure (wpAny_pure ?_)
  refine wpAny_bind (wpAny_newTuple ?_ (by show 2<=sizeLine; rw [sizeLine_eq]; decide))
  have sz:g4.objs.size=s.heap.objs.size:=by rw [b4.1,b2.1,b0.1]
  have z4:cM g4 z TI TO f0 fb:=b4.extBut _ _ D.i2z.symm (b2.extBut _ _ D.i1z.symm hz0)
  have kp4:∀ c o,c≠z->c≠i1->c≠i2->s.heap.get? c=some o->g4.get? c=some o:=fun c o c1 c3 c4 e=>b4.extBut _ _ c4 (b2.extBut _ _ c3 (b0.extBut _ _ c1 e))
  have t1':st1 (k+1) g4:=S1.keep _ _ _ t1 fun c hc o e=>by
   rcases hc with r | r
   ·rw [r] at e ⊢; exact b4.extBut _ _ D.i12 e
   ·rw [r] at e ⊢; exact b4.extBut _ _ D.l1i2 e
  refine wpAny_pure ⟨_,rfl,?_⟩
  show Q (.ref g4.objs.size) _
  have T8:IsPair (g4.push { cls:=.type "tuple",data:=.seq #[x,y] }) g4.objs.size x y:=Qm _ rfl
  rw [sz] at T8 ⊢
  refine hQ _ x y _ _ px py hf (Qa _ z4) ⟨_,_,Qa _ (kp4 _ _ D.TOz D.TOi1 D.TOi2 hTO)⟩ (S1.keep _ _ _ t1' fun c hc o e=>Qa _ e) (S2.keep _ _ _ t2 fun c hc o e=>Qa _ e) T8 (by rw [Jl,sz]) fun c o c1 c2 c3 c4 e=>Qa _ (kp4 c o c1 c3 c4 e)
theorem aEj {k:Nat} {a b:Value} {Q:Fin->Shared->Prop} (hh:A.handled=none) (D:ZipApart z TI TO i1 i2 l1 l2) (S1:Sub prog w i1 l1 n1 P1 st1) (S2:Sub prog w i2 l2 n2 P2 st2) (hz:cM s.heap z TI TO f0 f1) (hf:F0 f0) (hTI:IsPair s.heap TI (.ref i1) (.ref i2)) (hTO:IsPair s.heap TO a b) (h1:st1 k s.heap) (h2:st2 k s.heap) (hend:k=n1/\k<=n2∨k=n2/\k < n1) (hE:∀ h' e,(∀ c o,c≠z->c≠TO->c≠i1->c≠i2->s.heap.get? c=some o->h'.get? c=some o)->(∃ o,h'.get? e=some o/\o.cls=.type "StopIteration")->E (.ref e) { s with heap:=h' }) :
  wpAny (model prog w) A (Builtin.«zip.__next__» ⟨[.ref z],[]⟩) Q E s:=by
 refine wpAny_bind (m:=field (.ref z) 2) (wpAny_field hz rfl (x:=.bool false) rfl ?_)
 refine wpAny_bind (m:=field (.ref z) 3) (wpAny_field hz rfl (x:=.ref TI) rfl ?_)
 refine wpAny_bind (wpAny_seqItems hTI rfl ?_)
 refine wpAny_bind (m:=Builtin.SmallTypes.ownedTupleIsFree (.ref z)) (wJ hz hf ?_ fun h0 fb hz0 b0=>?_)
 ·simp only [if_true]
  refine wpAny_bind (wpAny_rule ?_)
  refine wpAny_bind (wpAny_field hz rfl (x:=.ref TO) rfl ?_)
  refine wpAny_bind (wpAny_setField_rec hz (by simp) fun g1 hz1 b1=>?_)
  have hz1':cM g1 z TI TO .ellipsis f1:=hz1
  refine wpAny_bind ?_
  simp only [Zk,Zn,Xn,Xq]
  have s1:st1 k g1:=S1.keep _ _ _ h1 fun c hc o e=>b1.extBut c o (by rcases hc with r | r <;> rw [r]; exact D.i1z; exact D.l1z) e
  refine wpAny_bind (wpAny_bind (wpAny_onRaise ?_))
  have fin:∀ (g:Heap) (e:Addr) (g0:Heap),(∃ o,g.get? e=some o/\o.cls=.type "StopIteration")->cM g z TI TO .ellipsis f1->(∀ c o,c≠z->c≠TO->c≠i1->c≠i2->s.heap.get? c=some o->g.get? c=some o) ->
    wpAny (model prog w) A (setField (.ref z) 0 .none) (fun _ s'=>E (.ref e) s') E { s with heap:=g }:=fun g e g0 ⟨oe,hoe,hce⟩ hzz kp=>by
   have hez:e≠z:=fun q=>by rw [q,hzz] at hoe; cases hoe; simp at hce
   exact wpAny_setField_rec hzz (by simp) fun g' _ b'=>hE g' e (fun c o c1 c2 c3 c4 q=>b'.extBut _ _ c1 (kp c o c1 c2 c3 c4 q)) ⟨oe,b'.extBut _ _ hez hoe,hce⟩
  rcases hend with ⟨e1,_⟩ | ⟨e2,k1⟩
  ·rw [e1] at s1
   refine wpAny_bind (m:=Builtin.SmallTypes.nextOf (.ref i1)) (S1.done _ _ _ _ hh s1 fun g2 e b2 he=>?_)
   exact fin g2 e g1 he (b2 _ _ D.i1z.symm hz1') fun c o c1 _ c3 _ q=>b2 _ _ c3 (b1.extBut _ _ c1 q)
  ·refine wpAny_bind (m:=Builtin.SmallTypes.nextOf (.ref i1)) (S1.item _ k _ _ _ k1 s1 fun x g2 px t1 b2=>wpAny_pure ?_)
   have o2:IsPair g2 TO a b:=b2.extBut _ _ D.TOi1 (b1.extBut _ _ D.TOz hTO)
   refine wpAny_bind (wpAny_seqItems o2 rfl ?_)
   refine wpAny_bind (wpAny_updateSeq_pair o2 fun g3 o3 b3=>?_)
   refine wpAny_bind (wpAny_letGo (wpAny_pure ?_))
   have s2:st2 n2 g3:=by
    rw [<- e2]
    exact S2.keep _ _ _ h2 fun c hc o e=>by
     rcases hc with r | r
     ·rw [r] at e ⊢; exact b3.extBut _ _ D.TOi2.symm (b2.extBut _ _ D.i12.symm (b1.extBut _ _ D.i2z e))
     ·rw [r] at e ⊢; exact b3.extBut _ _ D.l2TO (b2.extBut _ _ D.l2i1 (b1.extBut _ _ D.l2z e))
   refine wpAny_bind (wpAny_bind (wpAny_onRaise ?_))
   refine wpAny_bind (m:=Builtin.SmallTypes.nextOf (.ref i2)) (S2.done _ _ _ _ hh s2 fun g4 e b4 he=>?_)
   exact fin g4 e g3 he (b4 _ _ D.i2z.symm (b3.extBut _ _ D.TOz.symm (b2.extBut _ _ D.i1z.symm hz1'))) fun c o c1 c2 c3 c4 q=>b4 _ _ c4 (b3.extBut _ _ c2 (b2.extBut _ _ c3 (b1.extBut _ _ c1 q)))
 ·simp only [Xl,if_false]
  have s1:st1 k h0:=S1.keep _ _ _ h1 fun c hc o e=>b0.extBut c o (by rcases hc with r | r <;> rw [r]; exact D.i1z; exact D.l1z) e
  rw [<- Array.forIn_toList]
  simp only [Xn,Xq]
  refine wpAny_bind (wpAny_bind (wpAny_bind (wpAny_holding ?_)))
  rcases hend with ⟨e1,_⟩ | ⟨e2,k1⟩
  ·rw [e1] at s1
   refine wpAny_bind (m:=Builtin.SmallTypes.nextOf (.ref i1)) (S1.done _ _ _ _ hh s1 fun g2 e b2 he=>?_)
   exact hE g2 e (fun c o c1 _ c3 _ q=>b2 _ _ c3 (b0.extBut _ _ c1 q)) he
  ·refine wpAny_bind (m:=Builtin.SmallTypes.nextOf (.ref i1)) (S1.item _ k _ _ _ k1 s1 fun x g2 px t1 b2=>wpAny_pure ?_)
   refine wpAny_pure ?_
   have s2:st2 n2 g2:=by
    rw [<- e2]
    exact S2.keep _ _ _ h2 fun c hc o e=>by
     rcases hc with r | r
     ·rw [r] at e ⊢; exact b2.extBut _ _ D.i12.symm (b0.extBut _ _ D.i2z e)
     ·rw [r] at e ⊢; exact b2.extBut _ _ D.l2i1 (b0.extBut _ _ D.l2z e)
   refine wpAny_bind (wpAny_bind (wpAny_holding ?_))
   refine wpAny_bind (m:=Builtin.SmallTypes.nextOf (.ref i2)) (S2.done _ _ _ _ hh s2 fun g4 e b4 he=>?_)
   exact hE g4 e (fun c o c1 c2 c3 c4 q=>b4 _ _ c4 (b2.extBut _ _ c3 (b0.extBut _ _ c1 q))) he
structure ZipSt (h:Heap) (z TI TO i1 i2:Addr):Prop where
 hz:∃ f0 f1,F0 f0/\cM h z TI TO f0 f1
 ti:IsPair h TI (.ref i1) (.ref i2)
 to:∃ a b,IsPair h TO a b
end
end L2
namespace L2
open PySem
section
variable {pos:Pos}
theorem kIn (hK:X.K=K):OpR X (compareOp .In) (rIn K false):=by subst hK; exact pT
end
section
variable {γ δ ε ζ η θ ι:Type}
end
end L2
namespace L2
open PySem PySem.Spec PyProof.Rows
section
variable {own:Nat} {fr:List Nat} {σ:St}
theorem yT {k:Sk} (SH:St->Prop) (hn:xs.length<=1000) (hl:vs.length=xs.length) (ha:∀ H',aD H H'->SqK k K H' a xs) (hσ:SH (blk own fr σ)) (hs:∀ (i:Nat) x v p σ H1,xs[i]?=some x->vs[i]?=some v->H1 p=none->SH σ->aD H H1->∀ Q:V->St->Hp->Prop,(∀ σ2 H4,SH σ2->aD H1 H4->Q v σ2 H4)->g (.ref p) σ (upd H1 p (.tup [.int (i:Nat),x])) fun σ2 H2=>te σ2 H2 fun y H4=>Q y σ2 H4) (hd:∀ H',aD H H'->Qf H' vs) :
  ∃ W:Nat->Nat->List V->St->Hp->Prop,(∃ m,W 0 m [] (blk own fr σ) H)/\∀ i m ys σ' H,W i m ys σ' H ->
   ((Ite K k a).stop i H/\Qf H ys) ∨
   ((Ite K k a).go i H/\∃ N:List V->St->Hp->Prop,(∀ ys' σ2 H2,N ys' σ2 H2->∃ m',m' < m/\W (i+1) m' ys' σ2 H2) /\
    ∀ x H',(Ite K k a).yld i H x H'->g x σ' H' fun σ2 H2=>aBG σ2 H2 fun b H3=>if b=true then te σ2 H3 fun y H4=>ys.length < sizeLine/\N (ys++[y]) σ2 H4 else N ys σ2 H3):=by
 refine wD SH hn hl hσ (fun H' s=>⟨xs,ha H' s,rfl⟩) (fun i H' hi s=>⟨xs,xs[i],ha H' s,Qc hi⟩) (fun i v x σ H1 H2 hi hv sh s y Q k=>?_) hd
 obtain ⟨q,hq,rfl,hy⟩:=y
 obtain ⟨x,h1,rfl⟩:=hy xs (ha H1 s)
 exact hs i x v q σ H1 h1 hv hq sh s Q k
end
structure Tb (L:Bool) (t:SetTable) (n m:Nat):Prop where
 mask:(t.mask=7/\n<=m)∨(t.mask=31/\n<=18)
 dums:t.dummies = #[]
 plain:t.plain=true
 led:t.led=L
 size:t.place.size=n
 rise:t.place.toList.Pairwise (· < ·)
def ent (p:Int×Tok):Int×Value:=(hashInt p.1,.int p.1 p.2)
def SG (L:Bool) (h:Heap) (a:Addr) (ks:List (Int×Tok)):Prop:=∃ o ep es t,h.get? a=some o/\o.ExactSet/\o.data=.set es ep t/\es.toList.Perm (ks.map ent)/\Tb L t es.size 4
theorem SG.keep {l:List (Int×Tok)} (x:SG L h a l) (k:∀ o,h.get? a=some o->h'.get? a=some o):SG L h' a l:=by
 obtain ⟨o,ep,es,t,e,r⟩:=x
 exact ⟨o,ep,es,t,k o e,r⟩
structure KsOf (ks:List (Int×Tok)) (ns:List Int):Prop where
 nd:(ks.map (·.1)).Nodup
 mem:∀ k,k∈ks.map (·.1)↔k∈ns
 len:ks.length<=ns.length
section
variable {S:Addr} {es:Array (Int×Value)} {t:SetTable}
end
open PySem.AutoSeq1 (wpAny_loadPart')
theorem uN (l:Addr) (items:Array Value) (n:Nat) (dd:Option Addr) (sl:Array (Option Value)) (u:Tok) :
  Meets (Builtin.«tuple.__mul__» ⟨[.ref l,.int 1 u],[]⟩) (fun _ R s=>s.heap.get? l=some { cls:=.type "tuple",dict:=dd,data:=.seq items n,slots:=sl }/\R (.ok (.ret (Value.ref l))) s) :=
 .of_wp fun prog w A R s h=>by
  obtain ⟨hp,g,d,tk,os⟩:=s
  obtain ⟨hl,h⟩:=h
  have f1:=AutoSeq1.idx_int
  have f2:=AutoSeq1.sub_tuple_tuple
  wp_walk using wpAny_loadPart' hl
  exact ⟨_,rfl,h⟩
theorem sT (l:Addr) (items:Array Value) (n:Nat) (dd:Option Addr) (sl:Array (Option Value)) (u:Tok) (hne:items.isEmpty=false) :
  Meets (Builtin.«tuple.__mul__» ⟨[.ref l,.int 0 u],[]⟩) (fun _ R s=>s.heap.get? l=some { cls:=.type "tuple",dict:=dd,data:=.seq items n,slots:=sl }/\R (.ok (.ret (Value.ref s.heap.objs.size))) { s with heap:=s.heap.push { cls:=Value.type "tuple",data:=Data.seq #[] } }) :=
 .of_wp fun prog w A R s h=>by
  obtain ⟨hp,g,d,tk,os⟩:=s
  obtain ⟨hl,h⟩:=h
  have f1:=AutoSeq1.idx_int
  have f2:=AutoSeq1.sub_tuple_tuple
  wp_walk using wpAny_loadPart' hl
  exact ⟨_,rfl,h⟩
theorem rH (l:Addr) (items:Array Value) (n:Nat) (dd:Option Addr) (sl:Array (Option Value)) (u:Tok) (hne:items.isEmpty=true) :
  Meets (Builtin.«tuple.__mul__» ⟨[.ref l,.int 0 u],[]⟩) (fun _ R s=>s.heap.get? l=some { cls:=.type "tuple",dict:=dd,data:=.seq items n,slots:=sl }/\R (.ok (.ret (Value.ref l))) s) :=
 .of_wp fun prog w A R s h=>by
  obtain ⟨hp,g,d,tk,os⟩:=s
  obtain ⟨hl,h⟩:=h
  have f1:=AutoSeq1.idx_int
  have f2:=AutoSeq1.sub_tuple_tuple
  wp_walk using wpAny_loadPart' hl
  exact ⟨_,rfl,h⟩
def aGY (K:PySem.W.Frag):R2:=fun x y H Q=>∃ a,∃ k:Nat,∃ xs,x=.ref a/\y=.int k/\SqT K H a xs/\k<=1000/\xs.length<=1000/\∀ p H',aD H H'->SqT K H' p (List.replicate k xs).flatten->Q (.ref p) H'
theorem aAY (hK:X.K=K):OpR X (binaryOp .Mult) (aGY K):=by
 intro pins s σ H x y v u Q I rx ry h
 obtain ⟨a,k,xs,rfl,rfl,ha,h2,hz,q⟩:=h
 by_cases h1:1 < k
 ·exact aEb hK pins s σ H _ _ v u Q I rx ry ⟨a,k,xs,rfl,rfl,ha,by omega,by omega,hz,q⟩
 subst hK
 cases rx
 obtain ⟨t,rfl⟩:=ry
 obtain ⟨its,r,⟨⟨cls,dd,data,sl⟩,ho,hc,n,hd⟩,hzz⟩:=I.tuple ha
 simp only at hc hd
 subst hc hd
 refine wpAny_binaryOp_repeat_ref (T := "tuple") (U := "int") (by decide) ⟨_,ho,rfl⟩ (fun s'=>typeIs_int s' k t) kP PySem.F.fills_int_mul PySem.F.slot_int_rmul oR PySem.F.slot_int_index.lookup
  (call_meets PySem.F.slot_int_rmul (typeIs_int s k t) PySem.F.entry_int_rmul (PySem.F.args_int_rmul_2 _ _) (mJ k t a its.toArray n dd sl) ⟨ho,rfl,⟨_,ho,rfl⟩,?_⟩)
 rcases (show k=0∨k=1 by omega) with rfl | rfl
 ·by_cases hx:its = []
  ·subst hx
   cases r
   refine call_meets PySem.F.slot_tuple_mul ⟨_,ho,rfl⟩ PySem.F.entry_tuple_mul (PySem.F.args_tuple_mul_2 _ _) (rH a _ n dd sl t rfl) ⟨ho,?_⟩
   exact ⟨.ref a,H,I,rfl,q a H (aD.refl H) ha⟩
  ·have hne:its.toArray.isEmpty=false:=by
    cases its with
    | nil=>exact absurd rfl hx
    | cons _ _=>rfl
   refine call_meets PySem.F.slot_tuple_mul ⟨_,ho,rfl⟩ PySem.F.entry_tuple_mul (PySem.F.args_tuple_mul_2 _ _) (sT a its.toArray n dd sl t hne) ⟨ho,?_⟩
   refine ⟨.ref _,_,I.laid (t':=s.toks) (o:=.tup []) (fun b ob q=>Qa _ q) (Qg _) ?_,rfl,q _ _ (aD.new (I.hok.fresh (Qg _))) (SqT.of aB)⟩
   exact ⟨Jj _,[],0,.nil,Qm _ rfl⟩
 ·refine call_meets PySem.F.slot_tuple_mul ⟨_,ho,rfl⟩ PySem.F.entry_tuple_mul (PySem.F.args_tuple_mul_2 _ _) (uN a its.toArray n dd sl t) ⟨ho,?_⟩
  exact ⟨.ref a,H,I,rfl,q a H (aD.refl H) (by simpa using ha)⟩
abbrev iC (h:Heap) (T:Addr) (a b c:Value):Prop:=h.get? T=some { cls:=.type "tuple",data:=.seq #[a,b,c] }
structure Zip3Apart (z TI TO i1 i2 i3 l1 l2 l3:Addr):Prop where
 TIz:TI≠z
 TOz:TO≠z
 i1z:i1≠z
 i2z:i2≠z
 i3z:i3≠z
 TITO:TI≠TO
 TIi1:TI≠i1
 TIi2:TI≠i2
 TIi3:TI≠i3
 TOi1:TO≠i1
 TOi2:TO≠i2
 TOi3:TO≠i3
 i12:i1≠i2
 i13:i1≠i3
 i23:i2≠i3
 l1:∀ c∈[z,TO,i1,i2,i3],l1≠c
 l2:∀ c∈[z,TO,i1,i2,i3],l2≠c
 l3:∀ c∈[z,TO,i1,i2,i3],l3≠c
section
variable {TI TO:Addr} {n3:Nat} {P3:Nat->Value->Prop} {st3:Nat->Heap->Prop}
theorem wK {T:Addr} {a b c x:Value} {k:Nat} {Q:Unit->Shared->Prop} (h:iC s.heap T a b c)
  (hQ:∀ h':Heap,h'.get? T=some { cls:=.type "tuple",data:=.seq (#[a,b,c].setIfInBounds k x) }->Heap.SameBut T s.heap h'->Q () { s with heap:=h' }) :
  wpAny (model prog w) A (updateSeq T fun xs=>xs.setIfInBounds k x) Q E s:=by
 refine wpAny_updateSeq (n:=0) h rfl ?_ (by rw [sizeLine_eq]; show 3<=_; decide) (by rw [Array.size_setIfInBounds,sizeLine_eq]; show 3<=_; decide)
 have g:=Xp (Obj.mapSeq fun xs=>xs.setIfInBounds k x) h rfl
 refine hQ _ (g.trans ?_) (Heap.SameBut.update _ _ _)
 simp [Obj.mapSeq]
end
theorem sU (a b c:Value):checkTypeCall "zip" ⟨[a,b,c],[]⟩=pure ():=by kernel_rfl
theorem uO (a b c:Value):checkBuiltinCall "zip.__new__" ⟨[.type "zip",a,b,c],[]⟩=pure ():=by kernel_rfl
theorem nX (a b c d:Value):argsOk "object.__init__" ⟨[a,b,c,d],[]⟩:=by
 unfold argsOk
 kernel_rfl
section
variable (k1 k2 k3:Sk) (h:Heap) (a b d:Addr)
abbrev yh1:Heap:=h.push (itK k1 a)
abbrev yh2:Heap:=(yh1 k1 h a).push (itK k2 b)
abbrev yh3:Heap:=(yh2 k1 k2 h a b).push (itK k3 d)
abbrev yh4:Heap:=(yh3 k1 k2 k3 h a b d).push { cls:=.type "tuple",data:=.seq #[.ref h.objs.size,.ref (yh1 k1 h a).objs.size,.ref (yh2 k1 k2 h a b).objs.size] }
abbrev yh5:Heap:=(yh4 k1 k2 k3 h a b d).push { cls:=.type "tuple",data:=.seq #[.none,.none,.none] }
abbrev yh6:Heap:=(yh5 k1 k2 k3 h a b d).push { cls:=.type "zip",data:=.fields #[.none,.bool false,.bool false,.ref (yh3 k1 k2 k3 h a b d).objs.size,.ref (yh4 k1 k2 k3 h a b d).objs.size] }
end
set_option maxHeartbeats 4000000 in
theorem aBR (k1 k2 k3:Sk) (a b d:Addr) (xs ys vs:Array Value) :
  Meets (Builtin.«zip.__new__» ⟨[.type "zip",.ref a,.ref b,.ref d],[]⟩) (fun _ R s=>AtK k1 s.heap a xs/\AtK k2 s.heap b ys/\AtK k3 s.heap d vs/\R (.ok (.ret (.ref (yh5 k1 k2 k3 s.heap a b d).objs.size))) { s with heap:=yh6 k1 k2 k3 s.heap a b d }) :=
 .of_wp fun prog w A R s h=>by
  obtain ⟨hp,g,dd,tk,os⟩:=s
  obtain ⟨hl1,hl2,hl3,h⟩:=h
  have hsub:=sub_zip
  have hA:AtK k1 (Shared.heap ⟨hp,g,dd,tk,os⟩) a xs:=hl1
  have hB:AtK k2 (Shared.heap ⟨hp.push (itK k1 a),g,dd,tk,os⟩) b ys:=AtK.at hl2 fun o e=>Qa _ e
  have hC:AtK k3 (Shared.heap ⟨(hp.push (itK k1 a)).push (itK k2 b),g,dd,tk,os⟩) d vs:=AtK.at hl3 fun o e=>Qa _ (Qa _ e)
  wp_walk using qW hA,qW hB,qW hC
  exact ⟨_,rfl,h⟩
theorem aGZ {x z:V} (r:bJ [x,y,z] us):∃ u v t,us = [u,v,t]/\bI x u/\bI y v/\bI z t:=by
 cases r with
 | cons r1 q =>
  obtain ⟨v,t,rfl,r2,r3⟩:=mE q
  exact ⟨_,v,t,rfl,r1,r2,r3⟩
section
variable {own:Nat} {fr:List Nat} {σ:St}
end
section
variable {fr:List Nat} {pos:Pos} {wi:TI} {tk:TE}
theorem Inv.trackD {σ:St} {D:Addr} {ys:List (Key×V)} {its:List (Key×Value)} (I:Inv X pins σ H s) (hD:s.heap.DictOf (bL X.prog X.w) D its) (hv:KV ys its) (hz:ys.length<=sizeLine) (hm:(D==sysModules)=false) (hn:H D=none) (hL:D≠X.env.locals) (h1:X.s₀.heap.objs.size<=D) (h2:∀ x c,X.env.cells.lookup x=some c->c≠D) (h3:∀ p∈X.pn++pins,p.1≠D):Inv X pins σ (upd H D (.dK ys)) s:=by
 have ne:∀ b u,H b=some u->b≠D:=fun b u e z=>by rw [z,hn] at e; cases e
 refine I.step (g':=s.gens) (d':=s.drawn) (t':=s.toks) (h':=s.heap) (ch:=[D]) (fun b hb=>?_) (fun b o _ _ _ e _=>e) (fun b o _ _ _ e _=>⟨o.slots,e⟩) (fun b o hc _ n=>?_) (fun b o _ e=>⟨o,e⟩)
  (fun b xs e=>by rw [aK (ne b _ e)]; exact e) (fun b o u e=>by rw [aK (ne b _ e)]; exact e) (fun b ps e=>⟨#[],by rw [aK (ne b _ e),e]; simp⟩) (fun _ h=>h) (fun b u e=>?_) I.bare
 ·have e:b=D:=by simpa using hb
  subst e
  exact ⟨.inr h1,hL,h2,h3⟩
 ·rw [aK (by simpa using hc)]; exact n
 ·by_cases hb:b=D
  ·subst hb
   rw [aB] at e; cases e
   exact ⟨hz,hm,its,hv,hD⟩
  ·rw [aK hb] at e
   exact (I.hok b u e).stay (fun c v _ q=>q) (fun c q=>by rw [aK (ne c _ q)]; exact q) fun c xs q=>by rw [aK (ne c _ q)]; exact q
end
def tUp (t:TE):TE:=fun σ H Q=>∃ P:V->Hp->Prop,t σ H P/\∀ x H1,P x H1->Q x H1
def aFV (H0:Hp) (t:TE):TE:=fun σ H Q=>t σ H fun x H'=>∃ a o kvs,H' a=some (.frz o (.dK kvs))/\NF H0 a/\Q x (upd H' a (.dK kvs))
def aFW (own:Nat) (fr:List Nat) (td:TE) (g:TG) (tt:TT) (te:TE):TE:=fun σ H Q=>td σ H fun x H1=>∃ a kvs,x=.ref a/\H1 a=some (.dK kvs)/\∀ o:Obj,∃ W:Nat->Nat->List V->St->Hp->Prop,(∃ m,W 0 m [] (blk own fr σ) (upd H1 a (.frz o (.dK kvs))))/\∀ i m ys σ' H,W i m ys σ' H ->
 ((Itd a o kvs).stop i H/\∀ p,H p=none->Q (.ref p) (upd (upd H p (.lst ys)) a (.dK kvs))) ∨
 ((Itd a o kvs).go i H/\∃ N:List V->St->Hp->Prop,(∀ ys' σ2 H2,N ys' σ2 H2->∃ m',m' < m/\W (i+1) m' ys' σ2 H2) /\
  ∀ x H',(Itd a o kvs).yld i H x H'->g x σ' H' fun σ2 H2=>tt σ2 H2 fun b H3=>if b=true then te σ2 H3 fun y H4=>ys.length < sizeLine/\N (ys++[y]) σ2 H4 else N ys σ2 H3)
section
variable {fr:List Nat} {d:Expr} {pos:Pos} {t:TE}
theorem aG0 (h:PE X e t):PE X e (tUp t):=by
 intro pins s σ H Q I q
 obtain ⟨P,h1,h2⟩:=q
 refine thn (h pins s σ H P I h1) fun v s1 hx=>?_
 obtain ⟨x,H1,I1,r1,q1⟩:=hx
 exact ⟨x,H1,I1,r1,h2 _ _ q1⟩
theorem aEk (h:PE X e t):PE X e (aFV X.H₀ t):=by
 intro pins s σ H Q I q
 refine thn (h pins s σ H _ I q) fun v s1 hx=>?_
 obtain ⟨x,H1,I1,r1,a,o,kvs,ea,nf,k⟩:=hx
 exact ⟨x,_,I1.thaw ea nf,r1,k⟩
theorem aCX (S:CompOk X scope own fr frn) (hc:X.calm=true) (hi:PE X d td) (hg:∀ C s0 H0 fp,PG (bC X scope (own++frn) C s0 H0 fp) tg g) (ht:∀ C s0 H0 fp,PF (bC X scope (own++frn) C s0 H0 fp) ifs tt)
  (he:∀ C s0 H0 fp,PE (bC X scope (own++frn) C s0 H0 fp) elt te) (hs:∀ x,foldedSetIterable d X.env x=pure x:=by intro _; rfl) :
  PE X (.ListComp elt [⟨tg,d,ifs,0⟩] scope pos) (aFW own.length fr td g tt te):=by
 intro pins s σ H Q I h
 refine aEk (cF S hc (wH (aG0 hi)) hg ht he hs) pins s σ H Q I ⟨_,h,fun x H1 q=>?_⟩
 obtain ⟨a,kvs,ex,hx,k⟩:=q
 refine ⟨a,kvs,ex,hx,fun o nf=>?_⟩
 obtain ⟨W,w0,wk⟩:=k o
 refine ⟨W,w0,fun i m ys σ' H' w=>?_⟩
 rcases wk i m ys σ' H' w with ⟨st,q⟩ | z
 ·refine .inl ⟨st,fun p hp=>⟨a,o,kvs,?_,nf,q p hp⟩⟩
  rw [aK (fun z=>by rw [<- z,st.1] at hp; cases hp)]
  exact st.1
 ·exact .inr z
end
theorem aBS {own:Nat} {fr:List Nat} {σ:St} {Q:Hp->List V->Prop} (SH:St->Prop) (Pv:Nat->List V->Hp->Prop) (hn:kvs.length<=sizeLine) (hσ:SH (blk own fr σ)) (h0:Pv 0 [] H) (hlen:∀ i ys H,Pv i ys H->ys.length<=i) (hl:∀ i ys H,Pv i ys H->H a=some (.frz o (.dK kvs))) (hs:∀ i ys σ p H,kvs[i]?=some p->SH σ->Pv i ys H->ys.length < sizeLine->g (kV p.1) σ H fun σ2 H2=>tt σ2 H2 fun b H3=>if b=true then te σ2 H3 fun y H4=>ys.length < sizeLine/\SH σ2/\Pv (i+1) (ys++[y]) H4 else SH σ2/\Pv (i+1) ys H3) (hd:∀ ys H,Pv kvs.length ys H->Q H ys) :
  ∃ W:Nat->Nat->List V->St->Hp->Prop,(∃ m,W 0 m [] (blk own fr σ) H)/\∀ i m ys σ' H,W i m ys σ' H ->
   ((Itd a o kvs).stop i H/\Q H ys) ∨
   ((Itd a o kvs).go i H/\∃ N:List V->St->Hp->Prop,(∀ ys' σ2 H2,N ys' σ2 H2->∃ m',m' < m/\W (i+1) m' ys' σ2 H2) /\
    ∀ x H',(Itd a o kvs).yld i H x H'->g x σ' H' fun σ2 H2=>tt σ2 H2 fun b H3=>if b=true then te σ2 H3 fun y H4=>ys.length < sizeLine/\N (ys++[y]) σ2 H4 else N ys σ2 H3):=by
 refine oP kvs.length hn SH Pv hσ h0 hlen (fun ys H p=>⟨hl _ _ _ p,rfl⟩) (fun i ys H hi p=>⟨hl _ _ _ p,hi⟩) (fun i ys σ x H H' hi sh p y hz=>?_) hd
 obtain ⟨rfl,v,hv,rfl⟩:=y
 exact hs i ys σ v _ hv sh p hz
theorem aCY:aGx X (fun x y H Q=>∃ p xs i v,x=.ref p/\y=.int i/\SqL X.K H p xs/\0<=i/\xs[i.toNat]?=some v/\Q v H):=by
 intro pins s σ H o i ov iv Q I ro ri h
 obtain ⟨p,xs,k,z,rfl,rfl,hq,h0,he,q⟩:=h
 cases ro
 obtain ⟨t,rfl⟩:=ri
 obtain ⟨its,r,pl,hz⟩:=I.list hq
 obtain ⟨w,ew,rw'⟩:=r.get he
 have hlt:k.toNat < xs.length:=(Qd.mp he).1
 have hsz:sizeLine < 2^62:=by rw [sizeLine_eq]; decide
 exact wpAny_getItem_list (Q:=EP X pins σ Q) pl.isList h0 (by omega) (by simpa using ew) ⟨z,H,I,rw',q⟩
section
variable {d:Addr} {i:Nat} {es:Array DictEntry}
end
section
variable {σ:St}
end
theorem KT.length {kvs:List (List Key×V)} {xs:List (List Key×Addr×Value)} (r:KT H kvs xs):kvs.length=xs.length:=by
 induction r with
 | nil=>rfl
 | cons _ _ ih=>rw [Jn,Jn,ih]
theorem KT.at {kvs:List (List Key×V)} {xs:List (List Key×Addr×Value)} (r:KT H kvs xs):∀ {i:Nat} {p:List Key×V} {x:List Key×Addr×Value},kvs[i]?=some p->xs[i]?=some x->p.1=x.1/\H x.2.1=some (.tup (p.1.map kV)):=by
 induction r with
 | nil=>intro i p x h; simp at h
 | cons h1 _ ih =>
  intro i p x hp hx
  cases i with
  | zero =>
   simp only [Wd,Option.some.injEq] at hp hx
   subst hp hx
   exact ⟨h1.1,h1.2.1⟩
  | succ j =>
   simp only [We] at hp hx
   exact ih hp hx
section
variable {pos:Pos} {ek ev:Expr} {tk:TE}
end
abbrev KE:=List Key×Addr×V
def kvE (e:KE):List Key×V:=(e.1,e.2.2)
def Kp (ys:List KE) (H:Hp):Prop:=∀ e∈ys,H e.2.1=some (.tup (e.1.map kV))
def KY (ys:List KE) (its:List (List Key×Addr×Value)):Prop:=Paired (fun (p:KE) (q:List Key×Addr×Value)=>p.1=q.1/\p.2.1=q.2.1/\bI p.2.2 q.2.2) ys its
def DH (P:Program) (w:World) (h:Heap) (D:Addr) (its:List (List Key×Addr×Value)):Prop:=∃ o es ep,h.get? D=some o/\o.ExactDict/\o.data=.dict es ep/\es.toList=its.map (entryOfKey (tupleKind (bL P w)))/\(its.map (·.1)).Nodup
theorem Kp.wr {ys:List KE} {D:Addr} {o:HO} (h:Kp ys H) (n:H D=none):Kp ys (upd H D o):=fun e he=>by
 rw [aK (fun z=>by have q:=h e he; rw [z,n] at q; cases q)]
 exact h e he
theorem KY.length {ys:List KE} (r:KY ys its):ys.length=its.length:=by
 induction r with
 | nil=>rfl
 | cons _ _ ih=>rw [Jn,Jn,ih]
theorem KY.kt {ys:List KE} (r:KY ys its):Kp ys H->KT H (ys.map kvE) its:=by
 induction r with
 | nil=>intro _; exact .nil
 | cons h1 _ ih=>intro hp; exact .cons ⟨h1.1,by rw [<- h1.2.1]; exact hp _ (Qn ..),h1.2.2⟩ (ih fun e he=>hp e (Qs _ he))
theorem KY.snoc {ys:List KE} {k:List Key} {v:Value} (r:KY ys its) (h:bI y v):KY (ys++[(k,b,y)]) (its++[(k,b,v)]):=by
 induction r with
 | nil=>exact .cons ⟨rfl,rfl,h⟩ .nil
 | cons h1 _ ih=>exact .cons h1 ih
theorem KY.keys {ys:List KE} (r:KY ys its):ys.map (·.1)=its.map (·.1):=by
 induction r with
 | nil=>rfl
 | cons h1 _ ih=>rw [Jk,Jk,ih,h1.1]
theorem DH.at {D:Addr} (d:DH P w h D its) (k:∀ o,h.get? D=some o->h'.get? D=some o):DH P w h' D its:=let ⟨o,es,ep,h1,r⟩:=d; ⟨o,es,ep,k _ h1,r⟩
theorem DH.of {D:Addr} (d:h.DictOfH (tupleKind (bL P w)) D its):DH P w h D its:=let ⟨o,es,ep,h1,h2,h3,h4,_,h5⟩:=d; ⟨o,es,ep,h1,h2,h3,h4,h5⟩
section
variable {fr:List Nat} {pos:Pos} {wi:TI} {tk:TE}
end
section
variable {fr:List Nat} {d:Expr} {pos:Pos} {t:TE} {tk:TE}
end
section
variable {d v:Addr} {i:Nat} {es:Array DictEntry}
end
theorem KT.vals {kvs:List (List Key×V)} {xs:List (List Key×Addr×Value)} (r:KT H kvs xs):∀ {i:Nat} {p:List Key×V} {x:List Key×Addr×Value},kvs[i]?=some p->xs[i]?=some x->bI p.2 x.2.2:=by
 induction r with
 | nil=>intro i p x h; simp at h
 | cons h1 _ ih =>
  intro i p x hp hx
  cases i with
  | zero =>
   simp only [Wd,Option.some.injEq] at hp hx
   subst hp hx
   exact h1.2.2
  | succ j =>
   simp only [We] at hp hx
   exact ih hp hx
section
variable {o:Expr} {p pos:Pos}
end
structure KsU (ks:List (Int×Tok)) (ns:List Int):Prop where
 nd:(ks.map (·.1)).Nodup
 mem:∀ k,k∈ks.map (·.1)↔k∈ns
theorem KsU.old {ks:List (Int×Tok)} {k:Int} (h:KsU ks ns) (q:∃ p∈ks,p.1=k):KsU ks (ns++[k]):=⟨h.nd,fun x=>by
 rw [h.mem,Jg,Qi]
 refine ⟨.inl,fun z=>?_⟩
 rcases z with z | z
 ·exact z
 ·obtain ⟨p,hp,e⟩:=q
  rw [z,<- e]
  exact (h.mem _).mp (Qz.mpr ⟨p,hp,rfl⟩)⟩
theorem KsU.new {ks:List (Int×Tok)} {k:Int} {t:Tok} (h:KsU ks ns) (q:∀ p∈ks,p.1≠k):KsU ((k,t)::ks) (ns++[k]):=⟨by
 rw [Jk]
 refine Xr.mpr ⟨fun m=>?_,h.nd⟩
 obtain ⟨p,hp,e⟩:=Qz.mp m
 exact q p hp e,fun x=>by
 rw [Jk,Qj,h.mem,Jg,Qi]
 exact Or.comm⟩
section
variable {fr:List Nat} {pos:Pos} {wi:TI}
end
section
variable {fr:List Nat} {d:Expr} {pos:Pos}
end
theorem sV:typeLookup (.type "zip") "__len__" = pure none:=by rw [typeLookup_type,builtinLookup_eq_fast]; kernel_rfl
theorem qY:typeLookup (.type "zip") "__length_hint__" = pure none:=by rw [typeLookup_type,builtinLookup_eq_fast]; kernel_rfl
structure ZSt (k1 k2:Sk) (z TI TO i1 i2 l1 l2:Addr) (i:Nat) (h:Heap):Prop where
 zp:∃ f0 f1,F0 f0/\cM h z TI TO f0 f1
 ti:IsPair h TI (.ref i1) (.ref i2)
 to:∃ x y,IsPair h TO x y
 a1:ItK k1 h i1 l1 i
 a2:ItK k2 h i2 l2 i
theorem ZSt.keep {TI TO:Addr} {i:Nat} (st:ZSt k1 k2 z TI TO i1 i2 l1 l2 i h) (k:∀ c∈[z,TI,TO,i1,i2],∀ o,h.get? c=some o->h'.get? c=some o):ZSt k1 k2 z TI TO i1 i2 l1 l2 i h':=by
 obtain ⟨⟨f0,f1,hf,hz⟩,hTI,⟨x,y,hTO⟩,h1,h2⟩:=st
 exact ⟨⟨f0,f1,hf,k z (by simp) _ hz⟩,k TI (by simp) _ hTI,⟨x,y,k TO (by simp) _ hTO⟩,h1.at fun o e=>k i1 (by simp) o e,h2.at fun o e=>k i2 (by simp) o e⟩
theorem ZSt.lt {TI TO:Addr} {i:Nat} (st:ZSt k1 k2 z TI TO i1 i2 l1 l2 i h):∀ c∈[z,TI,TO,i1,i2],c < h.objs.size:=by
 intro c hc
 obtain ⟨⟨f0,f1,hf,hz⟩,hTI,⟨x,y,hTO⟩,h1,h2⟩:=st
 simp only [Qj,Qq,or_false] at hc
 rcases hc with rfl | rfl | rfl | rfl | rfl
 ·exact Qo hz
 ·exact Qo hTI
 ·exact Qo hTO
 ·obtain ⟨o,e,_⟩:=h1.obj; exact Qo e
 ·obtain ⟨o,e,_⟩:=h2.obj; exact Qo e
def Prs (H:Hp) (xs ys zs:List V):Prop:=∀ (j:Nat) (z:V),zs[j]?=some z->∃ q x y,z=.ref q/\xs[j]?=some x/\ys[j]?=some y/\H q=some (.tup [x,y])
def qB (S:Addr) (H H':Hp):Prop:=∀ b o,b≠S->H b=some o->H' b=some o
theorem qB.sq {k:Sk} {S l:Addr} (e:qB S H H') (n:l≠S) (h:SqK k K H l xs):SqK k K H' l xs:=by
 cases k
 ·rcases h with (h | ⟨o,h⟩) | h
  ·exact .inl (.inl (e _ _ n h))
  ·exact .inl (.inr ⟨o,e _ _ n h⟩)
  ·exact .inr h
 ·rcases h with (h | ⟨o,h⟩) | h
  ·exact .inl (.inl (e _ _ n h))
  ·exact .inl (.inr ⟨o,e _ _ n h⟩)
  ·exact .inr h
theorem Prs.keep {S:Addr} {ws:List V} (h:Prs H xs ys zs) (hS:H S=some (.lst ws)) (e:qB S H H'):Prs H' xs ys zs:=fun j z hz=>by
 obtain ⟨q,x,y,h1,h2,h3,h4⟩:=h j z hz
 exact ⟨q,x,y,h1,h2,h3,e _ _ (fun c=>by rw [c,hS] at h4; cases h4) h4⟩
section
variable {σ:St}
theorem uP (hc:X.calm=true) (A:Around) (hA:A.handled=none) {TI TO S:Addr} {res:Value} (DD:ZipApart z TI TO i1 i2 l1 l2) (nS:S∉[z,TI,TO,i1,i2]) (n1:l1≠S) (n2:l2≠S) (n:Nat) (hn:n=min xs.length ys.length) (hz:n<=sizeLine) :
  ∀ (k i:Nat) (s:Shared) (H:Hp) (zs:List V),n - i=k->i<=n->Inv X pins σ H s->(∀ c∈[z,TI,TO,i1,i2],hX X pins H c)->ZSt k1 k2 z TI TO i1 i2 l1 l2 i s.heap->SqK k1 X.K H l1 xs->SqK k2 X.K H l2 ys->H S=some (.lst zs)->zs.length=i->Prs H xs ys zs ->
  (∀ s' H' zs',Inv X pins σ H' s'->qB S H H'->H' S=some (.lst zs')->zs'.length=n->Prs H' xs ys zs'->R (.ok (.ret res)) s') ->
  codeAny (model X.prog X.w) A (.builtin "list.extend.loop" ⟨[.ref S,.ref z,res],[]⟩) R s:=by
 intro k
 induction k with
 | zero =>
  intro i s H zs hk hi I hf st ha hb hS hl hp hR
  have hin:i=n:=by omega
  subst hin
  obtain ⟨⟨f0,f1,hf0,hz0⟩,hTI,⟨x0,y0,hTO⟩,h1,h2⟩:=st
  obtain ⟨its,rv,pa⟩:=I.seqK ha
  obtain ⟨jts,rw',pb⟩:=I.seqK hb
  have la:=rv.length
  have lb:=rw'.length
  have hT:s.TypeIs (.ref z) "zip" := ⟨_,hz0,rfl⟩
  refine codeAny_builtin F.entry_extend_loop ?_
  rw [Around.under_plainId F.plain_extend_loop _]
  show wpAny _ A.in1 (pyNext (.ref z) >>= _) _ _ s
  refine wpAny_bind ?_
  unfold pyNext
  refine wpAny_bind (wpAny_attempt (wpAny_callSpecial?_slot (name:=Str.ofString "__next__") hT PySem.F.slot_zip_next (wpAny_call_entry PySem.F.slot_zip_next hT PySem.F.entry_zip_next
   (aEj (A:=_) hA DD (oO k1 X.prog X.w i1 l1 its.toArray (Ne.symm DD.l1i1).symm) (oO k2 X.prog X.w i2 l2 jts.toArray DD.l2i2) hz0 hf0 hTI hTO ⟨h1,pa⟩ ⟨h2,pb⟩ (by rw [Qk,Qk]; omega) fun h' e kp he=>?_) (PySem.F.args_zip_next_1 _))))
  obtain ⟨oe,hoe,hce⟩:=he
  refine wpAny_bind (wpAny_isInstance (T := "StopIteration") (b:=true) ⟨oe,hoe,hce⟩ isSubtype_stop (wpAny_pure ?_))
  refine wpAny_pure (hR _ H zs ?_ (fun _ _ _ e=>e) hS hl hp)
  refine I.turnedL (t':=s.toks) [z,TO,i1,i2] (fun c o hc' e=>?_) (fun c hc'=>hf c ?_)
  ·simp only [Qj,Qq,or_false,not_or] at hc'
   exact kp c o hc'.1 hc'.2.1 hc'.2.2.1 hc'.2.2.2 e
  ·simp only [Qj,Qq,or_false] at hc' ⊢
   rcases hc' with r | r | r | r
   ·exact .inl r
   ·exact .inr (.inr (.inl r))
   ·exact .inr (.inr (.inr (.inl r)))
   ·exact .inr (.inr (.inr (.inr r)))
 | succ k ih =>
  intro i s H zs hk hi I hf st ha hb hS hl hp hR
  have hlt:i < n:=by omega
  have hlts:=st.lt
  obtain ⟨⟨f0,f1,hf0,hz0⟩,hTI,⟨x0,y0,hTO⟩,h1,h2⟩:=st
  have hi1:i < xs.length:=by omega
  have hi2:i < ys.length:=by omega
  have hx:xs[i]?=some xs[i]:=Qc hi1
  have hy:ys[i]?=some ys[i]:=Qc hi2
  generalize xs[i]=x at hx
  generalize ys[i]=y at hy
  obtain ⟨its,rv,pa⟩:=I.seqK ha
  obtain ⟨jts,rw',pb⟩:=I.seqK hb
  obtain ⟨u,hu,ru⟩:=rv.get hx
  obtain ⟨v,hv,rv2⟩:=rw'.get hy
  have hT:s.TypeIs (.ref z) "zip" := ⟨_,hz0,rfl⟩
  have hs1:i < its.toArray.size:=by rw [Qk]; exact (Qd.mp hu).1
  have hs2:i < jts.toArray.size:=by rw [Qk]; exact (Qd.mp hv).1
  refine codeAny_builtin F.entry_extend_loop ?_
  rw [Around.under_plainId F.plain_extend_loop _]
  show wpAny _ A.in1 (pyNext (.ref z) >>= _) _ _ s
  refine wpAny_bind ?_
  unfold pyNext
  refine wpAny_bind (wpAny_attempt (wpAny_callSpecial?_slot (name:=Str.ofString "__next__") hT PySem.F.slot_zip_next (wpAny_call_entry PySem.F.slot_zip_next hT PySem.F.entry_zip_next
   (aCW DD (oO k1 X.prog X.w i1 l1 its.toArray DD.l1i1) (oO k2 X.prog X.w i2 l2 jts.toArray DD.l2i2) hz0 hf0 hTI hTO ⟨h1,pa⟩ ⟨h2,pb⟩ hs1 hs2 fun h' u' v' g0 g1 pu pv hg0 hz' hTO' s1 s2 hT' hsz kp=>wpAny_pure ?_) (PySem.F.args_zip_next_1 _))))
  have eu:u'=u:=by
   have q:its[i]?=some u':=by simpa using pu
   rw [hu] at q
   exact (Option.some.inj q).symm
  have ev:v'=v:=by
   have q:jts[i]?=some v':=by simpa using pv
   rw [hv] at q
   exact (Option.some.inj q).symm
  subst eu ev
  have hf0':=I.hok.fresh (Qg s.heap.objs.size)
  have fz:=I.fpOk (Qg s.heap.objs.size) hf0'
  have I2:Inv X pins σ H { s with heap:=h' }:=by
   refine I.turnedL (t':=s.toks) [z,TO,i1,i2] (fun c o hc' e=>?_) (fun c hc'=>hf c ?_)
   ·simp only [Qj,Qq,or_false,not_or] at hc'
    exact kp c o hc'.1 hc'.2.1 hc'.2.2.1 hc'.2.2.2 e
   ·simp only [Qj,Qq,or_false] at hc' ⊢
    rcases hc' with r | r | r | r
    ·exact .inl r
    ·exact .inr (.inr (.inl r))
    ·exact .inr (.inr (.inr (.inl r)))
    ·exact .inr (.inr (.inr (.inr r)))
  have I3:Inv X pins σ (upd H s.heap.objs.size (.tup [x,y])) { s with heap:=h' }:=by
   refine I2.trackO (show cO X.prog X.w _ _ _ (.tup [x,y]) from ⟨by show 2<=sizeLine; rw [sizeLine_eq]; decide,[u',v'],0,.cons ru (.cons rv2 .nil),hT'⟩) hf0' fz.2.1 I.sz fz.2.2.2.2.1 fz.2.2.2.2.2
  have e3:∀ b o,H b=some o->upd H s.heap.objs.size (.tup [x,y]) b=some o:=aD.new hf0'
  have qS:S≠s.heap.objs.size:=fun c=>by rw [c,hf0'] at hS; cases hS
  have t3:upd H s.heap.objs.size (.tup [x,y]) s.heap.objs.size=some (.tup [x,y]):=aB
  have hS3:=e3 _ _ hS
  have f3:∀ c∈[z,TI,TO,i1,i2],hX X pins (upd H s.heap.objs.size (.tup [x,y])) c:=fun c hc'=>⟨by rw [aK (Jp (hlts c hc'))]; exact (hf c hc').1,(hf c hc').2⟩
  generalize upd H s.heap.objs.size (.tup [x,y])=H3 at I3 e3 t3 hS3 f3
  obtain ⟨zz,kts,nn,r,hkl,e⟩:=I3.lstM hS3
  show wpAny _ A.in1 (updateSeq S (·.push (.ref s.heap.objs.size)) >>= _) _ _ _
  refine wpAny_bind ?_
  have I4:=I3.lset (t':=s.toks) (its':=kts++[.ref s.heap.objs.size]) (f:=(·.push (.ref s.heap.objs.size))) (ys:=zs++[.ref s.heap.objs.size]) hS3 e (by simp) (r.append (.cons (show bI (.ref s.heap.objs.size) (.ref s.heap.objs.size) from rfl) .nil)) (by rw [Qt,Jw]; omega)
  have b4:qB S H (upd H3 S (.lst (zs++[.ref s.heap.objs.size]))):=fun b o nb q=>by rw [aK nb]; exact e3 _ _ q
  refine wpAny_updateSeq e rfl (wpAny_pure ⟨plainId_quiet F.plain_extend_loop _,ih (i+1) _ (upd H3 S (.lst (zs++[.ref s.heap.objs.size]))) (zs++[.ref s.heap.objs.size]) (by omega) hlt I4 (fun c hc'=>⟨by rw [aK (fun q:c=S=>nS (q ▸ hc'))]; exact (f3 c hc').1,(f3 c hc').2⟩) ?_ (b4.sq n1 ha) (b4.sq n2 hb) aB (by rw [Qt,Jw,hl]) ?_ fun s' H' zs' I' b' hS' hl' hp'=>hR s' H' zs' I' (fun b o nb q=>b' b o nb (b4 b o nb q)) hS' hl' hp'⟩)
   (by rw [Qk,<- hkl]; omega) (by show (kts.toArray.push _).size<=sizeLine+1; rw [Array.size_push,Qk,<- hkl]; omega)
  ·refine ZSt.keep (h:=h') ⟨⟨_,_,hg0,hz'⟩,kp _ _ DD.TIz DD.TITO DD.TIi1 DD.TIi2 hTI,hTO',s1.1,s2.1⟩ fun c hc' o q=>?_
   exact (Jo _ _ (fun q:S=c=>nS (q.symm ▸ hc'))).trans q
  ·intro j w hw
   by_cases hj:j < zs.length
   ·rw [Ji hj] at hw
    obtain ⟨q,x',y',g1,g2,g3,g4⟩:=hp j w hw
    exact ⟨q,x',y',g1,g2,g3,b4 _ _ (fun c=>by rw [c,hS] at g4; cases g4) g4⟩
   ·rw [Jm (by omega)] at hw
    have hj2:j - zs.length=0:=by
     have:=(Qd.mp hw).1
     rw [Jw] at this
     omega
    rw [hj2] at hw
    have ej:j=i:=by omega
    subst ej
    exact ⟨s.heap.objs.size,x,y,(Option.some.inj hw).symm,hx,hy,by rw [aK (Ne.symm qS)]; exact t3⟩
def aCZ (K:PySem.W.Frag) (k1 k2:Sk) (ta:TA):TE:=fun σ H Q=>ta σ H fun vs H1=>∃ a b xs ys,vs = [.ref a,.ref b]/\SqK k1 K H1 a xs/\SqK k2 K H1 b ys/\min xs.length ys.length<=sizeLine/\∀ p zs H2,aD H1 H2->H1 p=none->H2 p=some (.lst zs)->zs.length=min xs.length ys.length->Prs H2 xs ys zs->Q (.ref p) H2
theorem aAj (k1 k2:Sk) {a b:Expr} {ta:TA} {p pos pos2:Pos} (hc:X.calm=true) (hgl:Gl X "list") (hml:X.mg "list" = none) (hg:Gl X "zip") (hm:X.mg "zip" = none) (ha:PA X [a,b] ta) (hs:starEach [a,b] X.env = [(false,eval a X.env),(false,eval b X.env)]:=by rfl) (hs2:starEach [b] X.env = [(false,eval b X.env)]:=by rfl) :
  PE X (.Call (.Name "list" p2) [.Call (.Name "zip" p) [a,b] [] pos] [] pos2) (aCZ X.K k1 k2 ta):=by
 intro pins s σ H Q I h
 refine wpAny_Call_Name_kw (jN (u:=.type "list") I hgl hml (by decide +kernel) ?_ (by decide) (by decide))
 refine PyProof.Rows.callWith_type1 ?_ rfl rfl
 show wpAny _ _ (spliced ((false,eval (.Call (.Name "zip" p) [a,b] [] pos) X.env)::[])) _ _ s
 refine Calls.spliced_cons ?_
 refine Call_ (jN (u:=.type "zip") I hg hm (by decide +kernel) (PyProof.Rows.callWith_type1 (thn (ha pos pins s σ H _ I h) fun us s1 hx9=>?_) (by rw [hs,hs2]) (by rw [hs2]; rfl)))
 obtain ⟨vs,H1,I1,r1,q1⟩:=hx9
 obtain ⟨l1,l2,xs,ys,rfl,hA,hB,hmn,q⟩:=q1
 obtain ⟨u1,u2,rfl,r1',r2'⟩:=mE r1
 cases r1'
 cases r2'
 obtain ⟨its,rv,pa⟩:=I1.seqK hA
 obtain ⟨jts,rw',pb⟩:=I1.seqK hB
 refine callType_new PySem.F.called_zip (by decide) (PySem.F.typeCall_zip_2 _ _) (PySem.F.newCall_zip_2 _ _) (fun obj=>PySem.F.args_object_init_3 obj _ _) PySem.F.entry_zip_new (yD k1 k2 l1 l2 its.toArray jts.toArray) ⟨pa,pb,?_⟩
 have n1:(zh1 k1 s1.heap l1).objs.size=s1.heap.objs.size+1:=Jl ..
 have n2:(zh2 k1 k2 s1.heap l1 l2).objs.size=s1.heap.objs.size+2:=by rw [Jl,n1]
 have n3:(zh3 k1 k2 s1.heap l1 l2).objs.size=s1.heap.objs.size+3:=by rw [Jl,n2]
 have n4:(zh4 k1 k2 s1.heap l1 l2).objs.size=s1.heap.objs.size+4:=by rw [Jl,n3]
 have n5:(zh5 k1 k2 s1.heap l1 l2).objs.size=s1.heap.objs.size+5:=by rw [Jl,n4]
 have g5:IsZip (zh5 k1 k2 s1.heap l1 l2) (zh4 k1 k2 s1.heap l1 l2).objs.size (zh2 k1 k2 s1.heap l1 l2).objs.size (zh3 k1 k2 s1.heap l1 l2).objs.size .none:=Qm _ rfl
 have g4:IsPair (zh5 k1 k2 s1.heap l1 l2) (zh3 k1 k2 s1.heap l1 l2).objs.size .none .none:=Qa _ (Qm _ rfl)
 have g3:IsPair (zh5 k1 k2 s1.heap l1 l2) (zh2 k1 k2 s1.heap l1 l2).objs.size (.ref s1.heap.objs.size) (.ref (zh1 k1 s1.heap l1).objs.size):=Qa _ (Qa _ (Qm _ rfl))
 have g2:ItK k2 (zh5 k1 k2 s1.heap l1 l2) (zh1 k1 s1.heap l1).objs.size l2 0:=(ItK.new k2 (zh1 k1 s1.heap l1) l2).at fun o e=>Qa _ (Qa _ (Qa _ e))
 have g1:ItK k1 (zh5 k1 k2 s1.heap l1 l2) s1.heap.objs.size l1 0:=(ItK.new k1 s1.heap l1).at fun o e=>Qa _ (Qa _ (Qa _ (Qa _ e)))
 have kp:∀ c o,s1.heap.get? c=some o->(zh5 k1 k2 s1.heap l1 l2).get? c=some o:=fun c o e=>Qa _ (Qa _ (Qa _ (Qa _ (Qa _ e))))
 refine ⟨⟨_,g5,rfl⟩,?_⟩
 refine Calls.spliced_nil ?_
 rw [n1,n2,n3,n4] at *
 have I2:Inv X pins σ H1 { s1 with heap:=zh5 k1 k2 s1.heap l1 l2 }:=I1.kept (t':=s1.toks) kp
 generalize zh5 k1 k2 s1.heap l1 l2=h5 at *
 have st:ZSt k1 k2 (s1.heap.objs.size+4) (s1.heap.objs.size+2) (s1.heap.objs.size+3) s1.heap.objs.size (s1.heap.objs.size+1) l1 l2 0 h5:=⟨⟨.none,false,.inl rfl,g5⟩,g3,⟨_,_,g4⟩,g1,g2⟩
 have hge:∀ c∈[s1.heap.objs.size+4,s1.heap.objs.size+2,s1.heap.objs.size+3,s1.heap.objs.size,s1.heap.objs.size+1],s1.heap.objs.size<=c/\c < s1.heap.objs.size+5:=fun c hc=>by
  simp only [Qj,Qq,or_false] at hc
  rcases hc with r | r | r | r | r <;> omega
 have hfp:∀ c∈[s1.heap.objs.size+4,s1.heap.objs.size+2,s1.heap.objs.size+3,s1.heap.objs.size,s1.heap.objs.size+1],hX X pins H1 c:=fun c hc=>I1.fpOk (hge c hc).1 (I1.hok.fresh (hge c hc).1)
 have DD:ZipApart (s1.heap.objs.size+4) (s1.heap.objs.size+2) (s1.heap.objs.size+3) s1.heap.objs.size (s1.heap.objs.size+1) l1 l2:=by
  have d:∀ i j:Nat,i≠j->s1.heap.objs.size+i≠s1.heap.objs.size+j:=fun i j h=>by omega
  have a1:∀ c∈[s1.heap.objs.size+4,s1.heap.objs.size+2,s1.heap.objs.size+3,s1.heap.objs.size,s1.heap.objs.size+1],l1≠c:=fun c hc'=>I1.seq_ne hA (hfp c hc')
  have a2:∀ c∈[s1.heap.objs.size+4,s1.heap.objs.size+2,s1.heap.objs.size+3,s1.heap.objs.size,s1.heap.objs.size+1],l2≠c:=fun c hc'=>I1.seq_ne hB (hfp c hc')
  exact ⟨d 2 4 (by decide),d 3 4 (by decide),d 0 4 (by decide),d 1 4 (by decide),d 2 3 (by decide),d 2 0 (by decide),d 2 1 (by decide),d 3 0 (by decide),d 3 1 (by decide),d 0 1 (by decide),
   a1 _ (by simp),a1 _ (by simp),a1 _ (by simp),a1 _ (by simp),a2 _ (by simp),a2 _ (by simp),a2 _ (by simp),a2 _ (by simp)⟩
 generalize hzz:s1.heap.objs.size+4=z at *
 generalize hTT:s1.heap.objs.size+2=TI at *
 generalize hTO':s1.heap.objs.size+3=TO at *
 generalize hi1':s1.heap.objs.size+1=i2 at *
 have hsz:∀ c∈[z,TI,TO,s1.heap.objs.size,i2],c < h5.objs.size:=st.lt
 generalize hs5:({ s1 with heap:=h5 }:Shared)=s5 at I2
 have e5:s5.heap=h5:=by rw [<- hs5]
 rw [<- e5] at st hsz g5
 have hT:s5.TypeIs (.ref z) "zip" := ⟨_,g5,rfl⟩
 refine callType_codes (Q₁:=fun obj s₁=>obj=.ref s5.heap.objs.size/\s₁={ s5 with heap:=s5.heap.push { cls:=.type "list",data:=.seq #[] } }) F.called_list (F.typeCall_list_1 _) F.entry_list_init
  (code_list_new _ ⟨rfl,rfl⟩) fun obj s₁ h₁=>?_
 obtain ⟨rfl,rfl⟩:=h₁
 have I6:=I2.lnew (t':=s5.toks) (ys:=[]) (its:=[]) .nil (Jj _)
 have hfr:=I2.fresh
 have hS6:upd H1 s5.heap.objs.size (.lst []) s5.heap.objs.size=some (.lst []):=aB
 have s6:aD H1 (upd H1 s5.heap.objs.size (.lst [])):=aD.new hfr
 have hfS:=I2.fpOk (H':=H1) (Qg s5.heap.objs.size) hfr
 have nl1:l1≠s5.heap.objs.size:=I2.seq_ne hA hfS
 have nl2:l2≠s5.heap.objs.size:=I2.seq_ne hB hfS
 have nS:s5.heap.objs.size∉[z,TI,TO,s1.heap.objs.size,i2]:=fun c=>Qv _ (hsz _ c)
 have hf6:∀ c∈[z,TI,TO,s1.heap.objs.size,i2],hX X pins (upd H1 s5.heap.objs.size (.lst [])) c:=fun c hc'=>⟨by rw [aK (Jp (hsz c hc'))]; exact (hfp c hc').1,(hfp c hc').2⟩
 have st6:ZSt k1 k2 z TI TO s1.heap.objs.size i2 l1 l2 0 (s5.heap.push { cls:=.type "list",data:=.seq #[] }):=st.keep fun c _ o e=>Qa _ e
 have hS:(s5.heap.push { cls:=.type "list",data:=.seq #[] }).get? s5.heap.objs.size=some { cls:=.type "list",data:=.seq #[] }:=Qm _ rfl
 have bl6:qB s5.heap.objs.size H1 (upd H1 s5.heap.objs.size (.lst [])):=fun b o _ e=>s6 b o e
 refine ⟨⟨_,hS,rfl⟩,F.args_list_init_2 _ _,?_⟩
 show wpAny _ X.A.in1.in1 (do let old<-Builtin.List.listItems (.ref s5.heap.objs.size); Builtin.List.listUpdate (.ref s5.heap.objs.size) (fun _=>#[]); letGo old.toList.reverse; Builtin.List.listExtendWith (.ref s5.heap.objs.size) (.ref z) .none) _ _ _
 refine wpAny_bind ?_
 unfold Builtin.List.listItems
 refine wpAny_bind (wpAny_seqItems hS rfl (wpAny_pure ?_))
 show wpAny _ X.A.in1.in1 (updateSeq s5.heap.objs.size (fun _=>#[]) >>= fun _=>letGo (#[]:Array Value).toList.reverse >>= fun _=>Builtin.List.listExtendWith (.ref s5.heap.objs.size) (.ref z) .none) _ _ _
 refine wpAny_bind (wpAny_updateSeq hS rfl ?_)
 have I7:=I6.lset (t':=s5.toks) (f:=fun _=>#[]) (its':=[]) (ys:=[]) aB hS rfl .nil (Jj _)
 have hS7:=Xp (Obj.mapSeq (fun _=>(#[]:Array Value))) hS rfl
 have st7:=st6.keep (h':=(s5.heap.push { cls:=.type "list",data:=.seq #[] }).update s5.heap.objs.size (Obj.mapSeq (fun _=>(#[]:Array Value)))) fun c hc' o q=>(Jo _ _ (fun q:s5.heap.objs.size=c=>nS (q.symm ▸ hc'))).trans q
 have bl7:qB s5.heap.objs.size H1 (upd (upd H1 s5.heap.objs.size (.lst [])) s5.heap.objs.size (.lst [])):=fun b o nb e=>by rw [aK nb]; exact bl6 b o nb e
 have hf7:∀ c∈[z,TI,TO,s1.heap.objs.size,i2],hX X pins (upd (upd H1 s5.heap.objs.size (.lst [])) s5.heap.objs.size (.lst [])) c:=fun c hc'=>⟨by rw [aK (Jp (hsz c hc'))]; exact (hf6 c hc').1,(hf6 c hc').2⟩
 have g7:IsZip ((s5.heap.push { cls:=.type "list",data:=.seq #[] }).update s5.heap.objs.size (Obj.mapSeq (fun _=>(#[]:Array Value)))) z TI TO .none:=(Jo _ _ (fun q:s5.heap.objs.size=z=>nS (by rw [q]; simp))).trans (Qa _ g5)
 refine wpAny_bind (wpAny_letGo ?_)
 generalize (s5.heap.push { cls:=.type "list",data:=.seq #[] }).update s5.heap.objs.size (Obj.mapSeq (fun _=>(#[]:Array Value)))=h7 at I7 hS7 st7 g7
 have hT7:({ s5 with heap:=h7 }:Shared).TypeIs (.ref z) "zip" := by obtain ⟨f0,f1,_,hz⟩:=st7.zp; exact ⟨_,hz,rfl⟩
 have neS:s5.heap.objs.size≠z:=fun e=>nS (by rw [e]; simp)
 unfold Builtin.List.listExtendWith
 refine wpAny_bind (wpAny_typeOf hT7 ?_)
 have h1:Builtin.List.listSameRef (.ref s5.heap.objs.size) (.ref z)=false:=by simp [Builtin.List.listSameRef,neS]
 have h2:(Value.type "zip" == Value.type "list")=false:=by decide
 have h3:(Value.type "zip" == Value.type "tuple")=false:=by decide
 simp only [h1,h2,h3,Wv,Xl,if_false]
 have key:∀ (H':Hp) (h':Heap),Inv X pins σ H' { s5 with heap:=h' }->qB s5.heap.objs.size H1 H'->(∀ c∈[z,TI,TO,s1.heap.objs.size,i2],hX X pins H' c)->ZSt k1 k2 z TI TO s1.heap.objs.size i2 l1 l2 0 h'->H' s5.heap.objs.size=some (.lst []) ->
   codeAny (model X.prog X.w) X.A.in1 (.builtin "list.extend.loop" ⟨[.ref s5.heap.objs.size,.ref z,.none],[]⟩) (wants (fun r s₂=>r=Value.none/\EP X pins σ Q (Value.ref s5.heap.objs.size) s₂) X.xe) { s5 with heap:=h' }:=by
  intro H' h' I' b' f' st' hS'
  refine uP hc X.A.in1 (I1.ok.hd hc) DD nS nl1 nl2 _ rfl hmn (min xs.length ys.length - 0) 0 _ H' [] rfl (Jj _) I' f' st' (b'.sq nl1 hA) (b'.sq nl2 hB) hS' rfl (fun j w hw=>by simp at hw) fun s' H2 zs I8 b8 hS8 hl8 hp8=>?_
  refine ⟨rfl,.ref s5.heap.objs.size,H2,I8,rfl,q _ zs H2 (fun b o e=>?_) hfr hS8 hl8 hp8⟩
  have nb:b≠s5.heap.objs.size:=fun c=>by rw [c,hfr] at e; cases e
  exact b8 b o nb (b' b o nb e)
 refine wpAny_bind (wpAny_pyIter_zip g7 ?_)
 refine wpAny_bind (wpAny_holding ?_)
 unfold Builtin.List.listLengthHint
 refine wpAny_bind (wpAny_specialOf hT7 sV ?_)
 show wpAny _ X.A.in1.in1 (specialOf (Value.ref z) (Str.ofString "__length_hint__") >>= _) _ _ _
 refine wpAny_bind (wpAny_specialOf hT7 qY ?_)
 refine wpAny_pure ?_
 refine wpAny_ite_split (fun _=>?_) (fun _=>wpAny_pure ⟨plainId_quiet F.plain_extend_loop _,key _ h7 I7 bl7 hf7 st7 aB⟩)
 refine wpAny_bind (wpAny_rule ?_)
 refine wpAny_bind ?_
 show wpAny _ X.A.in1.in1 (updateSeq s5.heap.objs.size (·.push .none) >>= fun _=>updateSeq s5.heap.objs.size (·.pop)) _ _ _
 refine wpAny_bind (wpAny_updateSeq hS7 rfl ?_)
 have I8:=I7.lset (t':=s5.toks) (f:=(·.push .none)) (its':=[.none]) (ys:=[.non]) aB hS7 rfl (.cons rfl .nil) (by rw [sizeLine_eq]; decide)
 have hS8:=Xp (Obj.mapSeq (·.push Value.none)) hS7 rfl
 refine wpAny_updateSeq (hz:=by seq_fits) hS8 rfl ?_
 have I9:=I8.lset (t':=s5.toks) (f:=(·.pop)) (its':=[]) (ys:=[]) aB hS8 rfl .nil (Jj _)
 refine wpAny_pure ⟨plainId_quiet F.plain_extend_loop _,key _ _ I9 (fun b o nb e=>?_) (fun c hc'=>?_) ?_ aB⟩
 ·rw [aK nb,aK nb]; exact bl7 b o nb e
 ·have nc:=Jp (hsz c hc')
  exact ⟨by rw [aK nc,aK nc]; exact (hf7 c hc').1,(hf7 c hc').2⟩
 ·exact st7.keep fun c hc' o q=>(Jo _ _ (fun q:s5.heap.objs.size=c=>nS (q.symm ▸ hc'))).trans ((Jo _ _ (fun q:s5.heap.objs.size=c=>nS (q.symm ▸ hc'))).trans q)
end
theorem aG1:bootBuiltins "max" = some (.builtin "max"):=by decide +kernel
def aEl (ys:List KE) (k:List Key):Bool:=ys.any fun e=>decide (e.1=k)
def aEm (ys:List KE) (k:List Key) (b:Addr) (y:V):List KE:=if aEl ys k=true then ys.map (fun e=>if e.1=k then (e.1,e.2.1,y) else e) else ys++[(k,b,y)]
theorem aC0 {ys:List KE} {k:List Key}:aEl ys k=true↔k∈ys.map (·.1):=by
 unfold aEl
 rw [Jq,Qz]
 exact ⟨fun ⟨e,h1,h2⟩=>⟨e,h1,of_decide_eq_true h2⟩,fun ⟨e,h1,h2⟩=>⟨e,h1,decide_eq_true h2⟩⟩
theorem Kp.put {ys:List KE} {k:List Key} (h:Kp ys H) (hb:H b=some (.tup (k.map kV))):Kp (aEm ys k b y) H:=by
 unfold aEm
 split
 ·intro e he
  obtain ⟨e0,h0,rfl⟩:=Qz.mp he
  have:=h e0 h0
  split
  ·exact this
  ·exact this
 ·intro e he
  rcases Jg.mp he with he | he
  ·exact h e he
  ·rw [Qi.mp he]; exact hb
theorem KY.has {ys:List KE} {k:List Key} (r:KY ys its):aEl ys k=(atKey its k).isSome:=by
 rw [Xf,aC0,r.keys]
 unfold atKey
 rw [Yx,List.find?_isSome,Qz]
 exact ⟨fun ⟨e,h1,h2⟩=>⟨e,h1,decide_eq_true h2⟩,fun ⟨e,h1,h2⟩=>⟨e,h1,of_decide_eq_true h2⟩⟩
theorem KY.mapE {ys:List KE} {k:List Key} {v:Value} (r:KY ys its) (h:bI y v):KY (ys.map (fun e=>if e.1=k then (e.1,e.2.1,y) else e)) (its.map (putAt k v)):=by
 induction r with
 | nil=>exact .nil
 | @cons p q ps qs h1 _ ih =>
  refine .cons ?_ ih
  by_cases hk:p.1=k
  ·have e1:(if p.1=k then (p.1,p.2.1,y) else p)=(p.1,p.2.1,y):=if_pos hk
   have e2:putAt k v q=(q.1,q.2.1,v):=if_pos (h1.1 ▸ hk)
   show (if p.1=k then (p.1,p.2.1,y) else p).1=(putAt k v q).1/\(if p.1=k then (p.1,p.2.1,y) else p).2.1=(putAt k v q).2.1/\bI (if p.1=k then (p.1,p.2.1,y) else p).2.2 (putAt k v q).2.2
   rw [e1,e2]
   exact ⟨h1.1,h1.2.1,h⟩
  ·have e1:(if p.1=k then (p.1,p.2.1,y) else p)=p:=if_neg hk
   have e2:putAt k v q=q:=if_neg (fun z=>hk (h1.1.trans z))
   show (if p.1=k then (p.1,p.2.1,y) else p).1=(putAt k v q).1/\(if p.1=k then (p.1,p.2.1,y) else p).2.1=(putAt k v q).2.1/\bI (if p.1=k then (p.1,p.2.1,y) else p).2.2 (putAt k v q).2.2
   rw [e1,e2]
   exact h1
theorem KY.stored {ys:List KE} {k:List Key} {v:Value} (r:KY ys its) (h:bI y v):KY (aEm ys k b y) (storedH its k b v):=by
 unfold aEm storedH
 rw [r.has]
 split
 ·exact r.mapE h
 ·exact r.snoc h
section
variable {fr:List Nat} {pos:Pos} {wi:TI} {tk:TE}
end
section
variable {own:Nat} {fr:List Nat} {wi2:TI} {σ:St} {Q:Hp->List V->Prop}
end
section
variable {fr:List Nat} {pos:Pos} {wi wi2:TI}
end
section
variable {σ:St}
end
section
variable {pos:Pos} {it:Value} {D:Addr} {env:Env}
theorem sW:compTurn (.DictComp kx vx [⟨tg,iter,[],0⟩,⟨tg2,iter2,[],0⟩] scope pos) 0 it (.ref D) env=(standAt iter.pos >>= fun _=>pyNext it >>= fun r=>match r with
   | none=>pure (.done .next)
   | some v=>letOwnedTupleGo tg it v >>= fun _=>assign tg env v >>= fun _ =>
    (eval iter2 env >>= fun x=>standAt iter2.pos >>= fun _=>foldedSetIterable iter2 env x >>= fun x=>holding [x] (pyIter x) >>= fun i =>
     runOwn (.compStart (.DictComp kx vx [⟨tg,iter,[],0⟩,⟨tg2,iter2,[],0⟩] scope pos) 1 i (.ref D) env) env >>= fun _ =>
     again (.compLoop (.DictComp kx vx [⟨tg,iter,[],0⟩,⟨tg2,iter2,[],0⟩] scope pos) 0 it (.ref D) env))):=by rfl
theorem sX:compTurn (.DictComp kx vx [⟨tg,iter,[],0⟩,⟨tg2,iter2,[],0⟩] scope pos) 1 it (.ref D) env=(standAt iter2.pos >>= fun _=>pyNext it >>= fun r=>match r with
   | none=>pure (.done .next)
   | some v=>letOwnedTupleGo tg2 it v >>= fun _=>assign tg2 env v >>= fun _ =>
    (eval kx env >>= fun kv=>holding [kv] (eval vx env) >>= fun vv=>standAt { line:=kx.pos.line,col:=kx.pos.col,endLine:=vx.pos.endLine,endCol:=vx.pos.endCol } >>= fun _=>holding [kv,vv] (dictSet D kv vv)) >>= fun _ =>
     again (.compLoop (.DictComp kx vx [⟨tg,iter,[],0⟩,⟨tg2,iter2,[],0⟩] scope pos) 1 it (.ref D) env)):=by rfl
theorem lK
  (h0:codeAny (model prog w) A (.compLoop (.DictComp kx vx [⟨tg,iter,[],0⟩,⟨tg2,iter2,[],0⟩] scope pos) 1 it (.ref D) env) R s)
  (h:wpAny (model prog w) A (pyIter it) (fun it' s'=>codeAny (model prog w) A (.compLoop (.DictComp kx vx [⟨tg,iter,[],0⟩,⟨tg2,iter2,[],0⟩] scope pos) 1 it' (.ref D) env) R s')
   (notedBy (model prog w) A env fun x s'=>R (.error x) s') s) :
  codeAny (model prog w) A (.compStart (.DictComp kx vx [⟨tg,iter,[],0⟩,⟨tg2,iter2,[],0⟩] scope pos) 1 it (.ref D) env) R s:=by
 refine codeAny_of_tree ?_
 show wpAny _ _ ((compStart (.DictComp kx vx [⟨tg,iter,[],0⟩,⟨tg2,iter2,[],0⟩] scope pos) 1 it (.ref D) env).onRaise (fun x=>do noteFrame x env; standAt theWindowsPlace)) _ _ s
 refine wpAny_notedAt ?_
 unfold compStart
 show wpAny _ _ (ask >>= _) _ _ s
 refine wpAny_bind (wpAny_askSetting (wpAny_ite ?_))
 split
 ·first
   | exact wpAny_bind (wpAny_pure (wpAny_pure (And.intro rfl h0)))
   | exact wpAny_pure (And.intro rfl h0)
 ·first
   | exact wpAny_bind (wpAny_rule (wpAny_bind (wpAny_standAt (wpAny_bind (wpAny_mono h (fun it' s' h'=>wpAny_pure (And.intro rfl h')) fun _ _ x=>x)))))
   | (refine wpAny_bind (wpAny_rule ?_); show wpAny _ _ (standAt iter2.pos >>= _) _ _ s; exact wpAny_bind (wpAny_standAt (wpAny_bind (wpAny_mono h (fun it' s' h'=>wpAny_pure (And.intro rfl h')) fun _ _ x=>x))))
theorem wL (I:Nat->Shared->Prop)
  (turn:∀ n s,I n s->wpAny (model prog w) A (pyNext it) (fun r s₁=>match r with
   | none=>R (.ok .next) s₁
   | some v=>wpAny (model prog w) A (letOwnedTupleGo tg2 it v) (fun _ s₁'=>wpAny (model prog w) A (assign tg2 env v) (fun _ s₂ =>
     wpAny (model prog w) A (eval kx env) (fun kv s₃=>wpAny (model prog w) A (eval vx env) (fun vv s₄ =>
       wpAny (model prog w) A (dictSet D kv vv) (fun _ s₅=>∃ m,m < n/\I m s₅) (fun _ _=>False) s₄) (fun _ _=>False) s₃) (fun _ _=>False) s₂) (fun _ _=>False) s₁') (fun _ _=>False) s₁) (fun _ _=>False) s)
  (n:Nat) (h:I n s) :
  codeAny (model prog w) A (.compLoop (.DictComp kx vx [⟨tg,iter,[],0⟩,⟨tg2,iter2,[],0⟩] scope pos) 1 it (.ref D) env) R s:=by
 refine codeAny_loop rfl I (fun n s hI=>?_) n h
 show wpAny _ A ((compTurn (.DictComp kx vx [⟨tg,iter,[],0⟩,⟨tg2,iter2,[],0⟩] scope pos) 1 it (.ref D) env).onRaise (fun x=>do noteFrame x env; theTreesLotGoes x)) _ _ s
 refine wpAny_noted ?_
 rw [sX]
 refine wpAny_bind (wpAny_standAt (wpAny_bind (wpAny_mono (turn n s hI) (fun r s₁ h₁=>?_) fun _ _ h'=>h'.elim)))
 cases r with
 | none=>exact wpAny_pure h₁
 | some v =>
  refine wpAny_bind (wpAny_mono h₁ (fun _ s₁' h₁'=>?_) fun _ _ h'=>h'.elim)
  refine wpAny_bind (wpAny_mono h₁' (fun _ s₂ h₂=>?_) fun _ _ h'=>h'.elim)
  exact wpAny_bind (wpAny_bind (wpAny_mono h₂ (fun kv s₃ h₃=>wpAny_bind (wpAny_holding (wpAny_mono h₃ (fun vv s₄ h₄=>wpAny_bind (wpAny_standAt (wpAny_holding (wpAny_mono h₄ (fun _ s₅ h₅=>wpAny_pure ⟨rfl,h₅⟩) fun _ _ h'=>h'.elim)))) fun _ _ h'=>h'.elim))) fun _ _ h'=>h'.elim))
theorem uQ (hs2:∀ x,foldedSetIterable iter2 env x=pure x) (I:Nat->Shared->Prop)
  (turn:∀ n s,I n s->wpAny (model prog w) A (pyNext it) (fun r s₁=>match r with
   | none=>R (.ok .next) s₁
   | some v=>wpAny (model prog w) A (letOwnedTupleGo tg it v) (fun _ s₁'=>wpAny (model prog w) A (assign tg env v) (fun _ s₂ =>
     wpAny (model prog w) A (eval iter2 env) (fun x s₃=>wpAny (model prog w) A (pyIter x) (fun i s₄ =>
       codeAny (model prog w) A (.compStart (.DictComp kx vx [⟨tg,iter,[],0⟩,⟨tg2,iter2,[],0⟩] scope pos) 1 i (.ref D) env) (fun r s₅=>match r with
        | .ok _=>∃ m,m < n/\I m s₅
        | .error _=>False) s₄) (fun _ _=>False) s₃) (fun _ _=>False) s₂) (fun _ _=>False) s₁') (fun _ _=>False) s₁) (fun _ _=>False) s)
  (n:Nat) (h:I n s) :
  codeAny (model prog w) A (.compLoop (.DictComp kx vx [⟨tg,iter,[],0⟩,⟨tg2,iter2,[],0⟩] scope pos) 0 it (.ref D) env) R s:=by
 refine codeAny_loop rfl I (fun n s hI=>?_) n h
 show wpAny _ A ((compTurn (.DictComp kx vx [⟨tg,iter,[],0⟩,⟨tg2,iter2,[],0⟩] scope pos) 0 it (.ref D) env).onRaise (fun x=>do noteFrame x env; theTreesLotGoes x)) _ _ s
 refine wpAny_noted ?_
 rw [sW]
 refine wpAny_bind (wpAny_standAt (wpAny_bind (wpAny_mono (turn n s hI) (fun r s₁ h₁=>?_) fun _ _ h'=>h'.elim)))
 cases r with
 | none=>exact wpAny_pure h₁
 | some v =>
  refine wpAny_bind (wpAny_mono h₁ (fun _ s₁' h₁'=>?_) fun _ _ h'=>h'.elim)
  refine wpAny_bind (wpAny_mono h₁' (fun _ s₂ h₂=>?_) fun _ _ h'=>h'.elim)
  refine wpAny_bind (wpAny_mono h₂ (fun x s₃ h₃=>?_) fun _ _ h'=>h'.elim)
  refine wpAny_bind (wpAny_standAt (wpAny_bind (wpAny_of_eq (hs2 x) (wpAny_bind (wpAny_holding (wpAny_mono h₃ (fun i s₄ h₄=>?_) fun _ _ h'=>h'.elim))))))
  refine wpAny_bind (wpAny_runOwn (codeAny_mono h₄ fun r s₅ h₅=>?_))
  cases r with
  | ok f=>exact wpAny_pure ⟨rfl,h₅⟩
  | error e=>exact False.elim h₅
end
theorem yU {Y:Cx} {pos:Pos} {it2 D:Addr} {fp2:List Addr} {tn2:Nat->Heap->Prop} {J2:It} {tk:TE} {ps:List (Addr×Obj)} {σ:St} {zs:List (Key×V)} {its:List (Key×Value)} {F:List (Key×V)->St->Hp->Prop} (hx:∀ v s',¬ Y.xe v s') (hc:Y.calm=true) (T:Turn Y.prog Y.w Y.K tg2 J2 fp2 it2 tn2) (hg:PG Y tg2 g2) (hk:PE Y kx tk) (he:PE Y vx tv) (hDL:D≠Y.env.locals) (hD1:D∈Y.ex∨Y.s₀.heap.objs.size<=D) (hDc:∀ x c,Y.env.cells.lookup x=some c->c≠D) (hDp:∀ p∈Y.pn,p.1≠D) (hDfs:D∉Y.fs) (hps:∀ p∈ps,p.1≠D) (I0:Inv Y ((D,o)::ps) σ H s) (pl0:s.heap.DictOf (bL Y.prog Y.w) D its) (v0:KV zs its) (z0:zs.length<=sizeLine) (st0:tn2 0 s.heap) (f0:∀ b∈fp2,hX Y ((D,o)::ps) H b) (w:∃ W2:Nat->Nat->List (Key×V)->St->Hp->Prop,(∃ m2,W2 0 m2 zs σ H)/\∀ j m2 zs σ3 H4,W2 j m2 zs σ3 H4->(J2.stop j H4/\F zs σ3 H4)∨(J2.go j H4/\∃ N2:List (Key×V)->St->Hp->Prop,(∀ zs' σ4 H5,N2 zs' σ4 H5->∃ m3,m3 < m2/\W2 (j+1) m3 zs' σ4 H5) /\
   ∀ x H',J2.yld j H4 x H'->g2 x σ3 H' fun σ4 H5=>tk σ4 H5 fun kx H6=>tv σ4 H6 fun y H7=>∃ k,kx=kV k/\zs.length < sizeLine/\N2 (eP zs k y) σ4 H7)) (hR:∀ (s':Shared) (σ':St) (H':Hp) (zs':List (Key×V)) (its':List (Key×Value)) (o':Obj),Inv Y ((D,o')::ps) σ' H' s'->s'.heap.DictOf (bL Y.prog Y.w) D its'->KV zs' its'->zs'.length<=sizeLine->F zs' σ' H'->R (.ok .next) s') :
  codeAny (model Y.prog Y.w) Y.A (.compStart (.DictComp kx vx [⟨tg,iter,[],0⟩,⟨tg2,iter2,[],0⟩] scope pos) 1 (.ref it2) (.ref D) Y.env) R s:=by
 obtain ⟨W2,⟨m0,w0⟩,turn⟩:=w
 have stat:∀ {H':Hp} {o':Obj},(∀ b∈fp2,H' b=none)->∀ b∈fp2,hX Y ((D,o')::ps) H' b:=fun {H' o'} hn b hb=>by
  obtain ⟨_,q1,q2,q3,q4,q5⟩:=f0 b hb
  refine ⟨hn b hb,q1,q2,q3,q4,fun p hp=>?_⟩
  rcases Jg.mp hp with h | h
  ·exact q5 p (Ju _ h)
  ·rcases Qj.mp h with h | h
   ·rw [h]; exact q5 (D,o) (Qp _ (Qn ..))
   ·exact q5 p (Qp _ (Qs _ h))
 have loop:codeAny (model Y.prog Y.w) Y.A (.compLoop (.DictComp kx vx [⟨tg,iter,[],0⟩,⟨tg2,iter2,[],0⟩] scope pos) 1 (.ref it2) (.ref D) Y.env) R s:=by
  refine wL (fun n s'=>∃ j σ' H' ys its o,Inv Y ((D,o)::ps) σ' H' s'/\s'.heap.DictOf (bL Y.prog Y.w) D its/\KV ys its/\ys.length<=sizeLine/\tn2 j s'.heap/\(∀ b∈fp2,H' b=none)/\W2 j n ys σ' H') ?_ m0
   ⟨0,σ,H,zs,its,o,I0,pl0,v0,z0,st0,fun b hb=>(f0 b hb).1,w0⟩
  rintro n s5 ⟨i,σ5,H5,ys,its,o,I5,pl5,v5,z5,st5,fr5,w5⟩
  have p5':=I5.pin (D,o) (Qp _ (Qn ..))
  rcases turn i n ys σ5 H5 w5 with ⟨stop,qn⟩ | ⟨go,N,hN,step⟩
  ·refine wpAny_mono (T.done Y rfl rfl rfl hc i _ s5 σ5 H5 (fun _ _=>False) I5 (stat fr5) st5 stop) (fun r s6 hx9=>?_) fun _ _ z=>z
   obtain ⟨hr,I6⟩:=hx9
   subst hr
   have p6:=I6.pin (D,o) (Qp _ (Qn ..))
   have pl6:s6.heap.DictOf (bL Y.prog Y.w) D its:=pl5.at fun o' e=>p6.1.trans (p5'.1.symm.trans e)
   exact hR s6 σ5 H5 ys its o I6 pl6 v5 z5 qn
  ·refine wpAny_mono (T.item Y rfl rfl rfl hc i _ s5 σ5 H5 (fun _ _=>False) I5 (stat fr5) st5 go) (fun r s6 hx9=>?_) fun _ _ z=>z
   obtain ⟨u,hr,h6⟩:=hx9
   subst hr
   refine wpAny_mono h6 (fun _ s7 hx9=>?_) fun _ _ z=>z
   obtain ⟨x,H7,I7,r7,y7,st7,fr7⟩:=hx9
   have I7':=I7.pinned (stat fr7) (T.obj _ _ st7)
   refine wpAny_mono (hg _ s7 σ5 H7 x u _ I7' r7 (step x H7 y7)) (fun _ s8 hx9=>?_) fun v s' z=>hx v s' z
   obtain ⟨σ8,H8,I8,q8⟩:=hx9
   have keepT:∀ {H':Hp} {s':Shared} {σ':St},Inv Y (((D,o)::ps)++mB fp2 s7.heap) σ' H' s'->tn2 (i+1) s'.heap/\(∀ b∈fp2,H' b=none)/\s'.heap.DictOf (bL Y.prog Y.w) D its/\H' D=none:=fun {H' s' σ'} I'=>by
    refine ⟨T.keep _ _ _ st7 fun b hb o e=>(I'.pin (b,o) (Qp _ (Qp _ (eI hb e)))).1,fun b hb=>?_,?_,?_⟩
    ·obtain ⟨o,e,d⟩:=T.obj _ _ st7 b hb
     exact (I'.pin (b,o) (Qp _ (Qp _ (eI hb e)))).2.1
    ·have p':=I'.pin (D,o) (Qp _ (Ju _ (Qn ..)))
     exact pl5.at fun o' e=>p'.1.trans (p5'.1.symm.trans e)
    ·exact (I'.pin (D,o) (Qp _ (Ju _ (Qn ..)))).2.1
   refine wpAny_mono (hk _ s8 σ8 H8 _ I8 q8) (fun kv s9 hx9=>?_) fun v s' z=>hx v s' z
   obtain ⟨kxv,H9,I9,r9,q9⟩:=hx9
   refine wpAny_mono (he _ s9 σ8 H9 _ I9 q9) (fun y s10 hx9=>?_) fun v s' z=>hx v s' z
   obtain ⟨yv,H10,I10,r10,k10,ek,lt10,q10⟩:=hx9
   subst ek
   obtain ⟨t10,fr10,pl10,hD10⟩:=keepT I10
   have hl:=v5.length
   refine wpAny_dictSet_pairs (knd:=bL Y.prog Y.w) (sQ r9) pl10 (fun h11 pl11 sb11=>?_) (by rw [<- hl]; exact Ze lt10)
   obtain ⟨m',hm,w'⟩:=hN _ σ8 H10 q10
   have I10':Inv Y [] σ8 H10 s10:=I10.pins_of fun p hp=>by cases hp
   have I11:Inv Y [] σ8 H10 { s10 with heap:=h11,toks:=s10.toks+1 } :=
    I10'.turned (t':=s10.toks+1) (it:=D) (fun b o hb e=>(sb11.2 b hb).trans e) hD10 hDL hD1 hDc (fun p hp=>by rw [Xe] at hp; exact hDp p hp)
   obtain ⟨o11,es11,ep11,ho11,hc11,hd11,_⟩:=id pl11
   refine ⟨m',hm,i+1,σ8,H10,eP ys k10 yv,stored its k10 y,o11,I11.pins_of fun p hp=>?_,pl11,v5.put k10 r10,Qu (jW _ _ _) lt10,T.keep _ _ _ t10 fun b hb o e=>(sb11.2 b (fun z=>?_)).trans e,fr10,w'⟩
   ·rcases Qj.mp hp with h | h
    ·subst h
     exact ⟨ho11,hD10,hDL,hDfs,fun v z=>by rw [hd11] at z; cases z⟩
    ·obtain ⟨a1,a2,a3,a4,a5⟩:=I10.pin p (Qp _ (Ju _ (Qs _ h)))
     exact ⟨(sb11.2 p.1 (hps p h)).trans a1,a2,a3,a4,a5⟩
   ·exact (f0 b hb).2.2.2.2.2 (D,_) (Qp _ (Qn ..)) z.symm
 exact lK loop (T.self Y.A 0 _ _ _ st0 loop)
def aEn (own:Nat) (fr:List Nat) (wi:TI) (g:TG) (wi2:TI) (g2:TG) (tk tv:TE):TE:=fun σ H Q=>wi σ H fun J H1=>∃ W:Nat->Nat->List (Key×V)->St->Hp->Prop,(∃ m,W 0 m [] (blk own fr σ) H1)/\∀ i m ys σ' H,W i m ys σ' H ->
   (J.stop i H/\∀ p,H p=none->Q (.ref p) (upd H p (.dK ys))) ∨
   (J.go i H/\∃ N:List (Key×V)->St->Hp->Prop,(∀ ys' σ2 H2,N ys' σ2 H2->∃ m',m' < m/\W (i+1) m' ys' σ2 H2) /\
    ∀ x H',J.yld i H x H'->g x σ' H' fun σ2 H2=>wi2 σ2 H2 fun J2 H3=>∃ W2:Nat->Nat->List (Key×V)->St->Hp->Prop,(∃ m2,W2 0 m2 ys σ2 H3)/\∀ j m2 zs σ3 H4,W2 j m2 zs σ3 H4->(J2.stop j H4/\N zs σ3 H4)∨(J2.go j H4/\∃ N2:List (Key×V)->St->Hp->Prop,(∀ zs' σ4 H5,N2 zs' σ4 H5->∃ m3,m3 < m2/\W2 (j+1) m3 zs' σ4 H5) /\
     ∀ x H',J2.yld j H4 x H'->g2 x σ3 H' fun σ4 H5=>tk σ4 H5 fun kx H6=>tv σ4 H6 fun y H7=>∃ k,kx=kV k/\zs.length < sizeLine/\N2 (eP zs k y) σ4 H7))
section
variable {fr:List Nat} {pos:Pos} {wi wi2:TI} {tk:TE}
theorem wM {σ:St} {Q:Hp->List (Key×V)->Prop} (S:CompOk X scope own fr frn) (hc:X.calm=true) (I2:Inv X pins σ H2 s2) (T:Turn X.prog X.w X.K tg J fp it tn) (st2:tn 0 s2.heap) (f2:∀ b∈fp,hX X pins H2 b) (hg:∀ C s0 H0 fp,PG (bC X scope (own++frn) C s0 H0 fp) tg g) (hi2:∀ C s0 H0 fp,PI (bC X scope (own++frn) C s0 H0 fp) tg2 iter2 wi2) (hg2:∀ C s0 H0 fp,PG (bC X scope (own++frn) C s0 H0 fp) tg2 g2) (hk:∀ C s0 H0 fp,PE (bC X scope (own++frn) C s0 H0 fp) kx tk) (he:∀ C s0 H0 fp,PE (bC X scope (own++frn) C s0 H0 fp) vx tv) (hs2:∀ C x,foldedSetIterable iter2 (compEnvC scope (cV X.env scope.names []) C X.env) x=pure x) (w:∃ W:Nat->Nat->List (Key×V)->St->Hp->Prop,(∃ m,W 0 m [] (blk own.length fr σ) H2)/\∀ i m ys σ' H,W i m ys σ' H ->
   (J.stop i H/\Q H ys) ∨
   (J.go i H/\∃ N:List (Key×V)->St->Hp->Prop,(∀ ys' σ2 H2,N ys' σ2 H2->∃ m',m' < m/\W (i+1) m' ys' σ2 H2) /\
    ∀ x H',J.yld i H x H'->g x σ' H' fun σ2 H2=>wi2 σ2 H2 fun J2 H3=>∃ W2:Nat->Nat->List (Key×V)->St->Hp->Prop,(∃ m2,W2 0 m2 ys σ2 H3)/\∀ j m2 zs σ3 H4,W2 j m2 zs σ3 H4->(J2.stop j H4/\N zs σ3 H4)∨(J2.go j H4/\∃ N2:List (Key×V)->St->Hp->Prop,(∀ zs' σ4 H5,N2 zs' σ4 H5->∃ m3,m3 < m2/\W2 (j+1) m3 zs' σ4 H5) /\
     ∀ x H',J2.yld j H4 x H'->g2 x σ3 H' fun σ4 H5=>tk σ4 H5 fun kx H6=>tv σ4 H6 fun y H7=>∃ k,kx=kV k/\zs.length < sizeLine/\N2 (eP zs k y) σ4 H7))) (hRR:∀ (C D:Addr) (s':Shared) (H':Hp) (ys:List (Key×V)) (its:List (Key×Value)) (m:Str->Option Value),s2.heap.objs.size<=C->s2.heap.objs.size<=D->D≠C->s'.heap.Ns C m->H' C=none->H' D=none->s'.heap.DictOf (bL X.prog X.w) D its->KV ys its->ys.length<=sizeLine ->
   Inv X pins σ H' s'->Q H' ys->RR (.ref D) C (.ok .next) s') :
  wpAny (model X.prog X.w) X.A newDict (fun acc s₃=>wpAny (model X.prog X.w) X.A (newFunctionEnv scope X.env.globals (cV X.env scope.names []) [] X.env.qual none .none (some X.env)) (fun cenv s₄ =>
   codeAny (model X.prog X.w) X.A (.compStart (.DictComp kx vx [⟨tg,iter,[],0⟩,⟨tg2,iter2,[],0⟩] scope pos) 0 (.ref it) acc { cenv with scope:=relabel scope X.env }) (RR acc cenv.locals) s₄) E s₃) E s2:=by
 obtain ⟨p1,p2,p3,p4,p5,p6,p7⟩:=S.parts
 obtain ⟨W,⟨m0,w0⟩,turn⟩:=w
 refine wpAny_newObj_type (wpAny_newFunctionEnv p2 (by intro y hy; simp at hy) (fun h₁ hns₁ hsb₁=>?_) p1)
 dsimp only at hns₁ hsb₁ ⊢
 generalize hH2:s2.heap.push { cls:=.type "dict",dict:=none,data:=.dict #[] }=HD at hns₁ hsb₁ ⊢
 have hCs:HD.objs.size=s2.heap.objs.size+1:=by rw [<- hH2,Jl]
 have hDC:s2.heap.objs.size≠HD.objs.size:=by omega
 have hCle:s2.heap.objs.size<=HD.objs.size:=by omega
 have below:∀ b,b < s2.heap.objs.size->b≠HD.objs.size/\b≠s2.heap.objs.size:=fun b hb=>⟨by omega,by omega⟩
 have old:∀ b o,s2.heap.get? b=some o->h₁.get? b=some o:=fun b o e=>hsb₁.extBut b o (below b (Qo e)).1 (Qa _ (hH2 ▸ Qa _ e))
 have hacc:h₁.get? s2.heap.objs.size=some { cls:=.type "dict",dict:=none,data:=.dict #[] }:=hsb₁.extBut _ _ hDC (Qa _ (hH2 ▸ Qm _ rfl))
 have hdict:h₁.DictOf (bL X.prog X.w) s2.heap.objs.size []:=Heap.DictOf.at (hH2 ▸ Heap.DictOf.new s2.heap:HD.DictOf (bL X.prog X.w) s2.heap.objs.size []) fun o e=>hsb₁.extBut _ _ hDC (Qa _ e)
 have flt:∀ b∈fp,b < s2.heap.objs.size:=fun b hb=>by
  obtain ⟨o,e,_⟩:=T.obj _ _ st2 b hb
  exact Qo e
 generalize hDg:s2.heap.objs.size=D at *
 generalize hCg:HD.objs.size=C at *
 have st3:tn 0 h₁:=T.keep _ _ _ st2 fun b _ o e=>old b o e
 -- facts of the block
 have clsub:∀ x c,(cV X.env scope.names []).lookup x=some c->X.env.cells.lookup x=some c:=fun x c e=>by
  rcases iT _ _ _ _ (eE e) with q | q
  ·cases q
  ·exact q
 have cD:∀ x c,(cV X.env scope.names []).lookup x=some c->c≠D:=fun x c e z=>by
  obtain ⟨v,q⟩:=I2.cell x c (clsub x c e)
  exact Qv _ (Ql q.lt (by rw [hDg,z]; exact Qg _))
 have loop:∀ s₃:Shared,s₃={ s2 with heap:=h₁,toks:=s2.toks+([]:List (Str×Value)).length } ->
   codeAny (model X.prog X.w) X.A (.compLoop (.DictComp kx vx [⟨tg,iter,[],0⟩,⟨tg2,iter2,[],0⟩] scope pos) 0 (.ref it) (.ref D) (compEnvC scope (cV X.env scope.names []) C X.env)) (RR (.ref D) C) s₃:=by
  rintro s₃ rfl
  have I3:Inv (bC X scope (own++frn) C s2 H2 fp) [(D,_)] (blk own.length fr σ) H2 { s2 with heap:=h₁,toks:=s2.toks+([]:List (Str×Value)).length } :=
   yB (m:=fun _=>none) I2 S f2 (by rw [hDg]; exact flt) (by rw [hDg]; exact hCle) (hns₁:h₁.Ns C _) old (by rw [hDg]; exact Qg _) hDC hacc (fun v z=>by cases z)
  have stat:∀ {H':Hp} {pl:List (Addr×Obj)},(∀ p∈pl,p.1=D)->(∀ b∈fp,H' b=none)->∀ b∈fp,hX (bC X scope (own++frn) C s2 H2 fp) pl H' b:=fun {H' pl} hpl hn b hb=>by
   refine ⟨hn b hb,(below b (flt b hb)).1,fun z=>?_,.inl hb,fun x c e=>(f2 b hb).2.2.2.2.1 x c (clsub x c e),fun p hp=>?_⟩
   ·have z':b∈frs X.stack:=z
    rcases Qj.mp (I2.stkSub b z') with e | e
    ·exact (f2 b hb).2.1 e
    ·exact (f2 b hb).2.2.1 e
   ·have hp':p∈pl:=by simpa [bC] using hp
    rw [hpl p hp']
    exact Ne.symm (below b (flt b hb)).2
  refine uQ (hs2 C) (env:=compEnvC scope (cV X.env scope.names []) C X.env) (fun n s'=>∃ i σ' H' ys its o,Inv (bC X scope (own++frn) C s2 H2 fp) [(D,o)] σ' H' s'/\s'.heap.DictOf (bL X.prog X.w) D its/\KV ys its/\ys.length<=sizeLine/\tn i s'.heap/\(∀ b∈fp,H' b=none)/\W i n ys σ' H') ?_ m0
   ⟨0,_,H2,[],[],_,I3,hdict,.nil,Jj _,st3,fun b hb=>(f2 b hb).1,w0⟩
  rintro n s5 ⟨i,σ5,H5,ys,its,o,I5,pl5,v5,z5,st5,fr5,w5⟩
  have one:∀ {o:Obj},∀ p∈[(D,o)],p.1=D:=fun p hp=>by
   have e:=Qi.mp hp
   rw [e]
  rcases turn i n ys σ5 H5 w5 with ⟨stop,qn⟩ | ⟨go,N,hN,step⟩
  ·refine wpAny_mono (T.done (bC X scope (own++frn) C s2 H2 fp) rfl rfl rfl hc i _ s5 σ5 H5 (fun _ _=>False) I5 (stat one fr5) st5 stop) (fun r s6 hx9=>?_) fun _ _ z=>z
   obtain ⟨hr,I6⟩:=hx9
   subst hr
   obtain ⟨m6,hn6,_⟩:=I6.loc
   have p6:=I6.pin (D,o) (by simp [bC])
   have p5':=I5.pin (D,o) (by simp [bC])
   have pl6:s6.heap.DictOf (bL X.prog X.w) D its:=pl5.at fun o' e=>p6.1.trans (p5'.1.symm.trans e)
   have IX:Inv X pins σ H5 s6:=I2.call' (ch:=fp) I6.os I6.base I6.hok I6.bare fun b hb=>⟨(f2 b hb).2.2.2.1,(f2 b hb).2.1,(f2 b hb).2.2.2.2.1,(f2 b hb).2.2.2.2.2⟩
   exact hRR C D s6 H5 ys its m6 hCle (Qg _) hDC hn6 I6.free p6.2.1 pl6 v5 z5 IX qn
  ·refine wpAny_mono (T.item (bC X scope (own++frn) C s2 H2 fp) rfl rfl rfl hc i _ s5 σ5 H5 (fun _ _=>False) I5 (stat one fr5) st5 go) (fun r s6 hx9=>?_) fun _ _ z=>z
   obtain ⟨u,hr,h6⟩:=hx9
   subst hr
   refine wpAny_mono h6 (fun _ s7 hx9=>?_) fun _ _ z=>z
   obtain ⟨x,H7,I7,r7,y7,st7,fr7⟩:=hx9
   have I7':=I7.pinned (stat one fr7) (T.obj _ _ st7)
   refine wpAny_mono (hg C s2 H2 fp _ s7 σ5 H7 x u _ I7' r7 (step x H7 y7)) (fun _ s8 hx9=>?_) fun _ _ z=>z
   obtain ⟨σ8,H8,I8,q8⟩:=hx9
   refine wpAny_mono (hi2 C s2 H2 fp _ s8 σ8 H8 _ I8 q8) (fun v2 s9 h9=>wpAny_mono h9 (fun itv s10 h10=>?_) fun _ _ z=>z) fun _ _ z=>z
   obtain ⟨it2,fp2,tn2,J2,H10,e10,I10,T2,st10,f10,w10⟩:=h10
   subst e10
   have DfsX:D∉frs X.stack:=fun z=>by
    rcases Qj.mp (I2.stkSub D z) with e | e
    ·exact Qv _ (Ql I2.lt (by rw [hDg,e]; exact Qg _))
    ·exact I2.nofs (by rw [hDg]; exact Qg _) e
   have p5':=I5.pin (D,o) (by simp [bC])
   have pl10:s10.heap.DictOf (bL X.prog X.w) D its:=by
    have p':=I10.pin (D,o) (by simp [bC])
    exact pl5.at fun o' e=>p'.1.trans (p5'.1.symm.trans e)
   refine yU (Y:=bC X scope (own++frn) C s2 H2 fp) (ps:=mB fp s7.heap) (F:=N) (fun _ _ z=>z) hc T2 (hg2 C s2 H2 fp) (hk C s2 H2 fp) (he C s2 H2 fp) hDC (.inr (by show s2.heap.objs.size<=D; rw [hDg]; exact Qg _)) cD (fun p hp=>by simp [bC] at hp) DfsX
    (fun p hp=>(below p.1 (flt p.1 (uU hp).1)).2) I10 pl10 v5 z5 st10 f10 w10 (fun s' σ' H' zs' its' o' I' pl' v' z' q'=>?_)
   obtain ⟨m',hm,w'⟩:=hN zs' σ' H' q'
   refine ⟨m',hm,i+1,σ',H',zs',its',o',I'.pins_of fun p hp=>?_,pl',v',z',T.keep _ _ _ st7 fun b hb o e=>(I'.pin (b,o) (Qp _ (Qs _ (eI hb e)))).1,fun b hb=>?_,w'⟩
   ·have e:=Qi.mp hp
    subst e
    exact I'.pin _ (Qp _ (Qn ..))
   ·obtain ⟨o,e,d⟩:=T.obj _ _ st7 b hb
    exact (I'.pin (b,o) (Qp _ (Qs _ (eI hb e)))).2.1
 exact codeAny_compStart_dict (loop _ rfl) (T.self X.A 0 _ _ _ st3 (loop _ rfl))
theorem aBT (S:CompOk X scope own fr frn) (hc:X.calm=true) (hi:PI X tg iter wi) (hg:∀ C s0 H0 fp,PG (bC X scope (own++frn) C s0 H0 fp) tg g) (hi2:∀ C s0 H0 fp,PI (bC X scope (own++frn) C s0 H0 fp) tg2 iter2 wi2) (hg2:∀ C s0 H0 fp,PG (bC X scope (own++frn) C s0 H0 fp) tg2 g2)
  (hk:∀ C s0 H0 fp,PE (bC X scope (own++frn) C s0 H0 fp) kx tk) (he:∀ C s0 H0 fp,PE (bC X scope (own++frn) C s0 H0 fp) vx tv) (hs:∀ x,foldedSetIterable iter X.env x=pure x:=by intro _; rfl) (hs2:∀ C x,foldedSetIterable iter2 (compEnvC scope (cV X.env scope.names []) C X.env) x=pure x:=by intro _ _; rfl) :
  PE X (.DictComp kx vx [⟨tg,iter,[],0⟩,⟨tg2,iter2,[],0⟩] scope pos) (aEn own.length fr wi g wi2 g2 tk tv):=by
 intro pins s σ H Q I h
 obtain ⟨p1,p2,p3,p4,p5,p6,p7⟩:=S.parts
 rw [arm_eval_DictComp]
 refine wpAny_comprehension_free (use:=none) rfl hs (S.clo I) p1 p3 (thn (hi pins s σ H _ I h) fun v s1 h1=>thn h1 fun itv s2 h2=>?_)
 obtain ⟨it,fp,tn,J,H2,e,I2,T,st2,f2,hw⟩:=h2
 subst e
 refine wM (RR:=fun acc C=>compPost (model X.prog X.w) X.A X.xe none (EP X pins σ Q) acc C) (Q:=fun H ys=>∀ p,H p=none->Q (.ref p) (upd H p (.dK ys))) S hc I2 T st2 f2 hg hi2 hg2 hk he hs2 hw ?_
 intro C D s' H' ys its m hC hD hDC hns hHC hHD pl v z IX q
 have cne:∀ a,s2.heap.objs.size<=a->∀ x c,X.env.cells.lookup x=some c->c≠a:=fun a ha x c e z=>by
  obtain ⟨v,w⟩:=I2.cell x c e
  exact Qv _ (Ql w.lt (by rw [z]; exact ha))
 have pne:∀ a,s2.heap.objs.size<=a->∀ p∈X.pn++pins,p.1≠a:=fun a ha p hp z=>Qv _ (Ql (Qo (I2.pin p hp).1) (by rw [z]; exact ha))
 have lne:∀ a,s2.heap.objs.size<=a->a≠X.env.locals:=fun a ha z=>Qv _ (Ql I2.lt (by rw [<- z]; exact ha))
 refine ⟨m,hns,fun h' hs'=>⟨.ref D,upd H' D (.dK ys),?_,rfl,q D hHD⟩⟩
 have IT:Inv X pins σ (upd H' D (.dK ys)) s':=IX.trackD pl v z (beq_eq_false_iff_ne.mpr fun e=>Qv _ (Ql I2.big (by rw [<- e]; exact hD))) hHD (lne D hD) (Qu I2.sz hD) (cne D hD) (pne D hD)
 exact IT.turned (t':=s'.toks) (it:=C) (fun b o hb e=>(hs'.2 b hb).trans e) (by rw [aK (Ne.symm hDC)]; exact hHC) (lne C hC) (.inr (Qu I2.sz hC)) (cne C hC) (pne C hC)
end
section
variable {own:Nat} {fr:List Nat} {wi2:TI} {tk:TE} {σ:St} {Q:Hp->List (Key×V)->Prop}
theorem yV (Pv : Nat -> List (Key × V) -> St -> Hp -> Prop) (h0 : Pv 0 [] (blk own fr σ) H) (hl : ∀ i ys σ H, Pv i ys σ H -> SqL K H a xs) (hs : ∀ i x ys σ H, xs[i]? = some x -> Pv i ys σ H -> g x σ H fun σ2 H2 => wi2 σ2 H2 fun J2 H3 => ∃ W2 : Nat -> Nat -> List (Key × V) -> St -> Hp -> Prop, (∃ m2, W2 0 m2 ys σ2 H3) /\ ∀ j m2 zs σ3 H4, W2 j m2 zs σ3 H4 -> (J2.stop j H4 /\ Pv (i + 1) zs σ3 H4) ∨ (J2.go j H4 /\ ∃ N2 : List (Key × V) -> St -> Hp -> Prop, (∀ zs' σ4 H5, N2 zs' σ4 H5 -> ∃ m3, m3 < m2 /\ W2 (j + 1) m3 zs' σ4 H5) /\
          ∀ x H',J2.yld j H4 x H'->g2 x σ3 H' fun σ4 H5=>tk σ4 H5 fun kx H6=>tv σ4 H6 fun y H7=>∃ k,kx=kV k/\zs.length < sizeLine/\N2 (eP zs k y) σ4 H7)) (hd:∀ ys σ H,Pv xs.length ys σ H->Q H ys) :
    ∃ W:Nat->Nat->List (Key×V)->St->Hp->Prop,(∃ m,W 0 m [] (blk own fr σ) H)/\∀ i m ys σ' H,W i m ys σ' H ->
     ((Itl K a).stop i H/\Q H ys) ∨
     ((Itl K a).go i H/\∃ N:List (Key×V)->St->Hp->Prop,(∀ ys' σ2 H2,N ys' σ2 H2->∃ m',m' < m/\W (i+1) m' ys' σ2 H2) /\
      ∀ x H',(Itl K a).yld i H x H'->g x σ' H' fun σ2 H2=>wi2 σ2 H2 fun J2 H3=>∃ W2:Nat->Nat->List (Key×V)->St->Hp->Prop,(∃ m2,W2 0 m2 ys σ2 H3)/\∀ j m2 zs σ3 H4,W2 j m2 zs σ3 H4->(J2.stop j H4/\N zs σ3 H4)∨(J2.go j H4/\∃ N2:List (Key×V)->St->Hp->Prop,(∀ zs' σ4 H5,N2 zs' σ4 H5->∃ m3,m3 < m2/\W2 (j+1) m3 zs' σ4 H5) /\
       ∀ x H',J2.yld j H4 x H'->g2 x σ3 H' fun σ4 H5=>tk σ4 H5 fun kx H6=>tv σ4 H6 fun y H7=>∃ k,kx=kV k/\zs.length < sizeLine/\N2 (eP zs k y) σ4 H7)):=by
  refine ⟨fun i m ys σ' H=>m=xs.length - i/\i<=xs.length/\Pv i ys σ' H,⟨xs.length,by simp,Jj _,h0⟩,?_⟩
  rintro i m ys σ' H ⟨rfl,hi,p⟩
  have q:=hl _ _ _ _ p
  by_cases hlt:i < xs.length
  ·refine .inr ⟨⟨xs,xs[i],q,Qc hlt⟩,Pv (i+1),fun ys' σ2 H2 p'=>⟨xs.length - (i+1),by omega,rfl,hlt,p'⟩,fun x H' y=>?_⟩
   obtain ⟨e,y⟩:=y
   subst e
   exact hs i x ys σ' _ (y xs q) p
  ·have e:i=xs.length:=by omega
   subst e
   exact .inl ⟨⟨xs,q,Qg _⟩,hd _ _ _ p⟩
theorem wN {ys:List (Key×V)} {σ2:St} {H3:Hp} {N:List (Key×V)->St->Hp->Prop} (Pw:Nat->List (Key×V)->St->Hp->Prop) (h0:Pw 0 ys σ2 H3) (hl:∀ j ys σ H,Pw j ys σ H->SqT K H b zs) (hs:∀ j z ys σ H,zs[j]?=some z->Pw j ys σ H->g2 z σ H fun σ4 H5=>tk σ4 H5 fun kx H6=>tv σ4 H6 fun y H7=>∃ k,kx=kV k/\ys.length < sizeLine/\Pw (j+1) (eP ys k y) σ4 H7) (hd:∀ ys σ H,Pw zs.length ys σ H->N ys σ H) :
  ∃ W2:Nat->Nat->List (Key×V)->St->Hp->Prop,(∃ m2,W2 0 m2 ys σ2 H3)/\∀ j m2 zs σ3 H4,W2 j m2 zs σ3 H4->((Itt K b).stop j H4/\N zs σ3 H4)∨((Itt K b).go j H4/\∃ N2:List (Key×V)->St->Hp->Prop,(∀ zs' σ4 H5,N2 zs' σ4 H5->∃ m3,m3 < m2/\W2 (j+1) m3 zs' σ4 H5) /\
     ∀ x H',(Itt K b).yld j H4 x H'->g2 x σ3 H' fun σ4 H5=>tk σ4 H5 fun kx H6=>tv σ4 H6 fun y H7=>∃ k,kx=kV k/\zs.length < sizeLine/\N2 (eP zs k y) σ4 H7):=by
 refine ⟨fun j m ys σ H=>m=zs.length - j/\j<=zs.length/\Pw j ys σ H,⟨zs.length,by simp,Jj _,h0⟩,?_⟩
 rintro j m ys σ H ⟨rfl,hj,p⟩
 have q:=hl _ _ _ _ p
 by_cases hlt:j < zs.length
 ·refine .inr ⟨⟨zs,zs[j],q,Qc hlt⟩,Pw (j+1),fun ys' σ2 H2 p'=>⟨zs.length - (j+1),by omega,rfl,hlt,p'⟩,fun x H' y=>?_⟩
  obtain ⟨e,y⟩:=y
  subst e
  exact hs j x ys σ _ (y zs q) p
 ·have e:j=zs.length:=by omega
  subst e
  exact .inl ⟨⟨zs,q,Qg _⟩,hd _ _ _ p⟩
end
def aG2:V->List V->Hp->VK->Prop:=fun x vs H Q=>∃ (a:Addr) (kvs:List (Key×V)) (k:Key) (df:V),x=.ref a/\vs = [kV k,df]/\Rd H a (.dK kvs)/\Q ((cB kvs k).getD df) H
theorem aAZ:MtR X "dict.get" aG2:=by
 intro pins s σ H x vs v us Q I rx rv h
 obtain ⟨a,kvs,k,df,rfl,rfl,e,q⟩:=h
 cases rx
 obtain ⟨u,ud,rfl,ru,rd⟩:=mE rv
 obtain ⟨z,hd,xs,rel,dd⟩:=yN I.hok e
 exact call_meetsIn PySem.F.slot_dict_get dd.typeIs PySem.F.entry_dict_get (PySem.F.args_dict_get_3 _ _ _) (meets_dict_get_default (bL X.prog X.w) a (sQ ru) hd ud) ⟨_,dd.mapOf,_,H,I.tok _,(rel.val k).getD rd,q⟩
section
variable {TI TO:Addr} {n3:Nat} {P3:Nat->Value->Prop} {st3:Nat->Heap->Prop}
theorem aBU {k:Nat} {a b c:Value} (D:Zip3Apart z TI TO i1 i2 i3 l1 l2 l3) (S1:Sub prog w i1 l1 n P1 st1) (S2:Sub prog w i2 l2 n2 P2 st2) (S3:Sub prog w i3 l3 n3 P3 st3) (hz:cM s.heap z TI TO f0 f1) (hf:F0 f0) (hTI:iC s.heap TI (.ref i1) (.ref i2) (.ref i3)) (hTO:iC s.heap TO a b c) (h1:st1 k s.heap) (h2:st2 k s.heap) (h3:st3 k s.heap) (kn:k < n) (kn2:k < n2) (kn3:k < n3) (hQ:∀ h' x y v g0 g1,P1 k x->P2 k y->P3 k v->F0 g0->cM h' z TI TO g0 g1->(∃ x y v,iC h' TO x y v)->st1 (k+1) h'->st2 (k+1) h'->st3 (k+1) h'->iC h' s.heap.objs.size x y v->h'.objs.size=s.heap.objs.size+1 ->
   (∀ c o,c≠z->c≠TO->c≠i1->c≠i2->c≠i3->s.heap.get? c=some o->h'.get? c=some o)->Q (.ref s.heap.objs.size) { s with heap:=h' }) :
  wpAny (model prog w) A (Builtin.«zip.__next__» ⟨[.ref z],[]⟩) (fun fin s'=>∃ v,fin=.done (.ret v)/\Q v s') E s:=by
 have L1:∀ {c},c∈[z,TO,i1,i2,i3]->l1≠c:=fun h=>D.l1 _ h
 have L2':∀ {c},c∈[z,TO,i1,i2,i3]->l2≠c:=fun h=>D.l2 _ h
 have L3:∀ {c},c∈[z,TO,i1,i2,i3]->l3≠c:=fun h=>D.l3 _ h
 refine wpAny_bind (m:=field (.ref z) 2) (wpAny_field hz rfl (x:=.bool false) rfl ?_)
 refine wpAny_bind (m:=field (.ref z) 3) (wpAny_field hz rfl (x:=.ref TI) rfl ?_)
 refine wpAny_bind (wpAny_seqItems hTI rfl ?_)
 refine wpAny_bind (m:=Builtin.SmallTypes.ownedTupleIsFree (.ref z)) (wJ hz hf ?_ fun h0 fb hz0 b0=>?_)
 ·simp only [if_true]
  refine wpAny_bind (wpAny_rule ?_)
  refine wpAny_bind (wpAny_field hz rfl (x:=.ref TO) rfl ?_)
  refine wpAny_bind (wpAny_setField_rec hz (by simp) fun g1 hz1 b1=>?_)
  have hz1':cM g1 z TI TO .ellipsis f1:=hz1
  refine wpAny_bind ?_
  simp only [Zk,Zn,Xn,Xq]
  -- the first one
  have s1:st1 k g1:=S1.keep _ _ _ h1 fun c hc o e=>b1.extBut c o (by rcases hc with r | r <;> rw [r]; exact D.i1z; exact L1 (by simp)) e
  refine wpAny_bind (wpAny_bind (wpAny_onRaise ?_))
  refine wpAny_bind (m:=Builtin.SmallTypes.nextOf (.ref i1)) (S1.item _ k _ _ _ kn s1 fun x g2 px t1 b2=>wpAny_pure ?_)
  have o2:iC g2 TO a b c:=b2.extBut _ _ D.TOi1 (b1.extBut _ _ D.TOz hTO)
  refine wpAny_bind (wpAny_seqItems o2 rfl ?_)
  refine wpAny_bind (wK o2 fun g3 o3 b3=>?_)
  have o3':iC g3 TO x b c:=o3
  refine wpAny_bind (wpAny_letGo (wpAny_pure ?_))
  -- the second one
  have s2:st2 k g3:=S2.keep _ _ _ h2 fun c hc o e=>by
   rcases hc with r | r
   ·rw [r] at e ⊢; exact b3.extBut _ _ D.TOi2.symm (b2.extBut _ _ D.i12.symm (b1.extBut _ _ D.i2z e))
   ·rw [r] at e ⊢; exact b3.extBut _ _ (L2' (by simp)) (b2.extBut _ _ (L2' (by simp)) (b1.extBut _ _ (L2' (by simp)) e))
  refine wpAny_bind (wpAny_bind (wpAny_onRaise ?_))
  refine wpAny_bind (m:=Builtin.SmallTypes.nextOf (.ref i2)) (S2.item _ k _ _ _ kn2 s2 fun y g4 py t2 b4=>wpAny_pure ?_)
  have o4:iC g4 TO x b c:=b4.extBut _ _ D.TOi2 o3'
  refine wpAny_bind (wpAny_seqItems o4 rfl ?_)
  refine wpAny_bind (wK o4 fun g5 o5 b5=>?_)
  have o5':iC g5 TO x y c:=o5
  refine wpAny_bind (wpAny_letGo (wpAny_pure ?_))
  -- the third one
  have s3:st3 k g5:=S3.keep _ _ _ h3 fun c hc o e=>by
   rcases hc with r | r
   ·rw [r] at e ⊢; exact b5.extBut _ _ D.TOi3.symm (b4.extBut _ _ D.i23.symm (b3.extBut _ _ D.TOi3.symm (b2.extBut _ _ D.i13.symm (b1.extBut _ _ D.i3z e))))
   ·rw [r] at e ⊢; exact b5.extBut _ _ (L3 (by simp)) (b4.extBut _ _ (L3 (by simp)) (b3.extBut _ _ (L3 (by simp)) (b2.extBut _ _ (L3 (by simp)) (b1.extBut _ _ (L3 (by simp)) e))))
  refine wpAny_bind (wpAny_bind (wpAny_onRaise ?_))
  refine wpAny_bind (m:=Builtin.SmallTypes.nextOf (.ref i3)) (S3.item _ k _ _ _ kn3 s3 fun v g6 pv t3 b6=>wpAny_pure ?_)
  have o6:iC g6 TO x y c:=b6.extBut _ _ D.TOi3 o5'
  refine wpAny_bind (wpAny_seqItems o6 rfl ?_)
  refine wpAny_bind (wK o6 fun g7 o7 b7=>?_)
  have o7':iC g7 TO x y v:=o7
  refine wpAny_bind (wpAny_letGo (wpAny_pure (wpAny_pure ?_)))
  refine wpAny_bind (wpAny_seqItems o7' rfl ?_)
  refine wpAny_bind (wpAny_newTuple ?_)
  have sz:g7.objs.size=s.heap.objs.size:=by rw [b7.1,b6.1,b5.1,b4.1,b3.1,b2.1,b1.1]
  have z7:cM g7 z TI TO .ellipsis f1:=b7.extBut _ _ D.TOz.symm (b6.extBut _ _ D.i3z.symm (b5.extBut _ _ D.TOz.symm (b4.extBut _ _ D.i2z.symm (b3.extBut _ _ D.TOz.symm (b2.extBut _ _ D.i1z.symm hz1')))))
  have kp7:∀ c o,c≠z->c≠TO->c≠i1->c≠i2->c≠i3->s.heap.get? c=some o->g7.get? c=some o:=fun c o c1 c2 c3 c4 c5 e =>
   b7.extBut _ _ c2 (b6.extBut _ _ c5 (b5.extBut _ _ c2 (b4.extBut _ _ c4 (b3.extBut _ _ c2 (b2.extBut _ _ c3 (b1.extBut _ _ c1 e))))))
  have t1':st1 (k+1) g7:=S1.keep _ _ _ t1 fun c hc o e=>by
   rcases hc with r | r
   ·rw [r] at e ⊢; exact b7.extBut _ _ D.TOi1.symm (b6.extBut _ _ D.i13 (b5.extBut _ _ D.TOi1.symm (b4.extBut _ _ D.i12 (b3.extBut _ _ D.TOi1.symm e))))
   ·rw [r] at e ⊢; exact b7.extBut _ _ (L1 (by simp)) (b6.extBut _ _ (L1 (by simp)) (b5.extBut _ _ (L1 (by simp)) (b4.extBut _ _ (L1 (by simp)) (b3.extBut _ _ (L1 (by simp)) e))))
  have t2':st2 (k+1) g7:=S2.keep _ _ _ t2 fun c hc o e=>by
   rcases hc with r | r
   ·rw [r] at e ⊢; exact b7.extBut _ _ D.TOi2.symm (b6.extBut _ _ D.i23 (b5.extBut _ _ D.TOi2.symm e))
   ·rw [r] at e ⊢; exact b7.extBut _ _ (L2' (by simp)) (b6.extBut _ _ (L2' (by simp)) (b5.extBut _ _ (L2' (by simp)) e))
  have t3':st3 (k+1) g7:=S3.keep _ _ _ t3 fun c hc o e=>by
   rcases hc with r | r
   ·rw [r] at e ⊢; exact b7.extBut _ _ D.TOi3.symm e
   ·rw [r] at e ⊢; exact b7.extBut _ _ (L3 (by simp)) e
  have zlt:g7.objs.size≠z:=Zy (Qo z7)
  refine wpAny_bind (m:=Builtin.SmallTypes.ownedTupleHandOut (.ref z) (.ref g7.objs.size)) ?_
  unfold Builtin.SmallTypes.ownedTupleHandOut
  have z8:cM (g7.push { cls:=.type "tuple",data:=.seq #[x,y,v] }) z TI TO .ellipsis f1:=Qa _ z7
  refine wpAny_bind (wpAny_setField_rec z8 (by simp) fun g9 z9 b9=>?_)
  have z9':cM g9 z TI TO (rawInt g7.objs.size) f1:=z9
  refine wpAny_setField_rec z9' (by simp) fun g10 z10 b10=>?_
  have z10':cM g10 z TI TO (rawInt g7.objs.size) false:=z10
  have up:∀ c o,c≠z->g7.get? c=some o->g10.get? c=some o:=fun c o c1 e=>b10.extBut _ _ c1 (b9.extBut _ _ c1 (Qa _ e))
  have T10:iC g10 g7.objs.size x y v:=b10.extBut _ _ zlt (b9.extBut _ _ zlt (Qm _ rfl))
  have sz10:g10.objs.size=s.heap.objs.size+1:=by rw [b10.1,b9.1,Jl,sz]
  rw [sz] at z10' T10
  refine wpAny_pure ⟨_,rfl,?_⟩
  show Q (.ref g7.objs.size) _
  rw [sz]
  refine hQ g10 x y v _ _ px py pv (.inr ⟨_,_,rfl⟩) z10' ⟨_,_,_,up _ _ D.TOz o7'⟩ (S1.keep _ _ _ t1' fun c hc o e=>up c o (by rcases hc with r | r <;> rw [r]; exact D.i1z; exact L1 (by simp)) e) (S2.keep _ _ _ t2' fun c hc o e=>up c o (by rcases hc with r | r <;> rw [r]; exact D.i2z; exact L2' (by simp)) e) (S3.keep _ _ _ t3' fun c hc o e=>up c o (by rcases hc with r | r <;> rw [r]; exact D.i3z; exact L3 (by simp)) e) T10 sz10 fun c o c1 c2 c3 c4 c5 e=>up c o c1 (kp7 c o c1 c2 c3 c4 c5 e)
 ·simp only [Xl,if_false]
  have s1:st1 k h0:=S1.keep _ _ _ h1 fun c hc o e=>b0.extBut c o (by rcases hc with r | r <;> rw [r]; exact D.i1z; exact L1 (by simp)) e
  rw [<- Array.forIn_toList]
  simp only [Xn,Xq]
  refine wpAny_bind (wpAny_bind (wpAny_bind (wpAny_holding ?_)))
  refine wpAny_bind (m:=Builtin.SmallTypes.nextOf (.ref i1)) (S1.item _ k _ _ _ kn s1 fun x g2 px t1 b2=>wpAny_pure ?_)
  refine wpAny_pure ?_
  have s2:st2 k g2:=S2.keep _ _ _ h2 fun c hc o e=>by
   rcases hc with r | r
   ·rw [r] at e ⊢; exact b2.extBut _ _ D.i12.symm (b0.extBut _ _ D.i2z e)
   ·rw [r] at e ⊢; exact b2.extBut _ _ (L2' (by simp)) (b0.extBut _ _ (L2' (by simp)) e)
  refine wpAny_bind (wpAny_bind (wpAny_holding ?_))
  refine wpAny_bind (m:=Builtin.SmallTypes.nextOf (.ref i2)) (S2.item _ k _ _ _ kn2 s2 fun y g4 py t2 b4=>wpAny_pure ?_)
  refine wpAny_pure ?_
  have s3:st3 k g4:=S3.keep _ _ _ h3 fun c hc o e=>by
   rcases hc with r | r
   ·rw [r] at e ⊢; exact b4.extBut _ _ D.i23.symm (b2.extBut _ _ D.i13.symm (b0.extBut _ _ D.i3z e))
   ·rw [r] at e ⊢; exact b4.extBut _ _ (L3 (by simp)) (b2.extBut _ _ (L3 (by simp)) (b0.extBut _ _ (L3 (by simp)) e))
  refine wpAny_bind (wpAny_bind (wpAny_holding ?_))
  refine wpAny_bind (m:=Builtin.SmallTypes.nextOf (.ref i3)) (S3.item _ k _ _ _ kn3 s3 fun v g6 pv t3 b6=>wpAny_pure ?_)
  refine wpAny_pure (wpAny_pure ?_)
  refine wpAny_bind (wpAny_newTuple ?_ (by show 3<=sizeLine; rw [sizeLine_eq]; decide))
  have sz:g6.objs.size=s.heap.objs.size:=by rw [b6.1,b4.1,b2.1,b0.1]
  have z6:cM g6 z TI TO f0 fb:=b6.extBut _ _ D.i3z.symm (b4.extBut _ _ D.i2z.symm (b2.extBut _ _ D.i1z.symm hz0))
  have kp6:∀ c o,c≠z->c≠i1->c≠i2->c≠i3->s.heap.get? c=some o->g6.get? c=some o:=fun c o c1 c3 c4 c5 e=>b6.extBut _ _ c5 (b4.extBut _ _ c4 (b2.extBut _ _ c3 (b0.extBut _ _ c1 e)))
  have t1':st1 (k+1) g6:=S1.keep _ _ _ t1 fun c hc o e=>by
   rcases hc with r | r
   ·rw [r] at e ⊢; exact b6.extBut _ _ D.i13 (b4.extBut _ _ D.i12 e)
   ·rw [r] at e ⊢; exact b6.extBut _ _ (L1 (by simp)) (b4.extBut _ _ (L1 (by simp)) e)
  have t2':st2 (k+1) g6:=S2.keep _ _ _ t2 fun c hc o e=>by
   rcases hc with r | r
   ·rw [r] at e ⊢; exact b6.extBut _ _ D.i23 e
   ·rw [r] at e ⊢; exact b6.extBut _ _ (L2' (by simp)) e
  refine wpAny_pure ⟨_,rfl,?_⟩
  show Q (.ref g6.objs.size) _
  have T8:iC (g6.push { cls:=.type "tuple",data:=.seq #[x,y,v] }) g6.objs.size x y v:=Qm _ rfl
  rw [sz] at T8 ⊢
  exact hQ _ x y v _ _ px py pv hf (Qa _ z6) ⟨_,_,_,Qa _ (kp6 _ _ D.TOz D.TOi1 D.TOi2 D.TOi3 hTO)⟩ (S1.keep _ _ _ t1' fun c hc o e=>Qa _ e) (S2.keep _ _ _ t2' fun c hc o e=>Qa _ e) (S3.keep _ _ _ t3 fun c hc o e=>Qa _ e) T8 (by rw [Jl,sz]) fun c o c1 c2 c3 c4 c5 e=>Qa _ (kp6 c o c1 c3 c4 c5 e)
theorem aC1 {a b c:Value} {Q:Fin->Shared->Prop} (hh:A.handled=none) (D:Zip3Apart z TI TO i1 i2 i3 l1 l2 l3) (S1:Sub prog w i1 l1 n P1 st1) (hz:cM s.heap z TI TO f0 f1) (hf:F0 f0) (hTI:iC s.heap TI (.ref i1) (.ref i2) (.ref i3)) (hTO:iC s.heap TO a b c) (h1:st1 n s.heap) (hE:∀ h' e,(∀ c o,c≠z->c≠TO->c≠i1->c≠i2->c≠i3->s.heap.get? c=some o->h'.get? c=some o)->(∃ o,h'.get? e=some o/\o.cls=.type "StopIteration")->E (.ref e) { s with heap:=h' }) :
  wpAny (model prog w) A (Builtin.«zip.__next__» ⟨[.ref z],[]⟩) Q E s:=by
 refine wpAny_bind (m:=field (.ref z) 2) (wpAny_field hz rfl (x:=.bool false) rfl ?_)
 refine wpAny_bind (m:=field (.ref z) 3) (wpAny_field hz rfl (x:=.ref TI) rfl ?_)
 refine wpAny_bind (wpAny_seqItems hTI rfl ?_)
 refine wpAny_bind (m:=Builtin.SmallTypes.ownedTupleIsFree (.ref z)) (wJ hz hf ?_ fun h0 fb hz0 b0=>?_)
 ·simp only [if_true]
  refine wpAny_bind (wpAny_rule ?_)
  refine wpAny_bind (wpAny_field hz rfl (x:=.ref TO) rfl ?_)
  refine wpAny_bind (wpAny_setField_rec hz (by simp) fun g1 hz1 b1=>?_)
  have hz1':cM g1 z TI TO .ellipsis f1:=hz1
  refine wpAny_bind ?_
  simp only [Zk,Zn,Xn,Xq]
  have s1:st1 n g1:=S1.keep _ _ _ h1 fun c hc o e=>b1.extBut c o (by rcases hc with r | r <;> rw [r]; exact D.i1z; exact D.l1 _ (by simp)) e
  refine wpAny_bind (wpAny_bind (wpAny_onRaise ?_))
  refine wpAny_bind (m:=Builtin.SmallTypes.nextOf (.ref i1)) (S1.done _ _ _ _ hh s1 fun g2 e b2 he=>?_)
  obtain ⟨oe,hoe,hce⟩:=he
  have hzz:cM g2 z TI TO .ellipsis f1:=b2 _ _ D.i1z.symm hz1'
  have hez:e≠z:=fun q=>by rw [q,hzz] at hoe; cases hoe; simp at hce
  exact wpAny_setField_rec hzz (by simp) fun g' _ b'=>hE g' e (fun c o c1 c2 c3 c4 c5 q=>b'.extBut _ _ c1 (b2 _ _ c3 (b1.extBut _ _ c1 q))) ⟨oe,b'.extBut _ _ hez hoe,hce⟩
 ·simp only [Xl,if_false]
  have s1:st1 n h0:=S1.keep _ _ _ h1 fun c hc o e=>b0.extBut c o (by rcases hc with r | r <;> rw [r]; exact D.i1z; exact D.l1 _ (by simp)) e
  rw [<- Array.forIn_toList]
  simp only [Xn,Xq]
  refine wpAny_bind (wpAny_bind (wpAny_bind (wpAny_holding ?_)))
  refine wpAny_bind (m:=Builtin.SmallTypes.nextOf (.ref i1)) (S1.done _ _ _ _ hh s1 fun g2 e b2 he=>?_)
  exact hE g2 e (fun c o c1 _ c3 _ _ q=>b2 _ _ c3 (b0.extBut _ _ c1 q)) he
end
structure ZSt3 (k1 k2 k3:Sk) (z TI TO i1 i2 i3 l1 l2 l3:Addr) (i:Nat) (h:Heap):Prop where
 zp:∃ f0 f1,F0 f0/\cM h z TI TO f0 f1
 ti:iC h TI (.ref i1) (.ref i2) (.ref i3)
 to:∃ x y v,iC h TO x y v
 a1:ItK k1 h i1 l1 i
 a2:ItK k2 h i2 l2 i
 a3:ItK k3 h i3 l3 i
theorem ZSt3.keep {TI TO:Addr} {i:Nat} (st:ZSt3 k1 k2 k3 z TI TO i1 i2 i3 l1 l2 l3 i h) (k:∀ c∈[z,TI,TO,i1,i2,i3],∀ o,h.get? c=some o->h'.get? c=some o):ZSt3 k1 k2 k3 z TI TO i1 i2 i3 l1 l2 l3 i h':=by
 obtain ⟨⟨f0,f1,hf,hz⟩,hTI,⟨x,y,v,hTO⟩,h1,h2,h3⟩:=st
 exact ⟨⟨f0,f1,hf,k z (by simp) _ hz⟩,k TI (by simp) _ hTI,⟨x,y,v,k TO (by simp) _ hTO⟩,h1.at fun o e=>k i1 (by simp) o e,h2.at fun o e=>k i2 (by simp) o e,h3.at fun o e=>k i3 (by simp) o e⟩
theorem ZSt3.lt {TI TO:Addr} {i:Nat} (st:ZSt3 k1 k2 k3 z TI TO i1 i2 i3 l1 l2 l3 i h):∀ c∈[z,TI,TO,i1,i2,i3],c < h.objs.size:=by
 intro c hc
 obtain ⟨⟨f0,f1,hf,hz⟩,hTI,⟨x,y,v,hTO⟩,h1,h2,h3⟩:=st
 simp only [Qj,Qq,or_false] at hc
 rcases hc with rfl | rfl | rfl | rfl | rfl | rfl
 ·exact Qo hz
 ·exact Qo hTI
 ·exact Qo hTO
 ·obtain ⟨o,e,_⟩:=h1.obj; exact Qo e
 ·obtain ⟨o,e,_⟩:=h2.obj; exact Qo e
 ·obtain ⟨o,e,_⟩:=h3.obj; exact Qo e
def aFX (H:Hp) (xs ys vs zs:List V):Prop:=∀ (j:Nat) (z:V),zs[j]?=some z->∃ q x y v,z=.ref q/\xs[j]?=some x/\ys[j]?=some y/\vs[j]?=some v/\H q=some (.tup [x,y,v])
section
variable {σ:St}
theorem sY (hc:X.calm=true) (A:Around) (hA:A.handled=none) {TI TO S:Addr} {res:Value} (DD:Zip3Apart z TI TO i1 i2 i3 l1 l2 l3) (nS:S∉[z,TI,TO,i1,i2,i3]) (n1:l1≠S) (n2:l2≠S) (n3:l3≠S) (n:Nat) (hn:n=xs.length) (hn2:ys.length=n) (hn3:vs.length=n) (hz:n<=sizeLine) :
  ∀ (k i:Nat) (s:Shared) (H:Hp) (zs:List V),n - i=k->i<=n->Inv X pins σ H s->(∀ c∈[z,TI,TO,i1,i2,i3],hX X pins H c)->ZSt3 k1 k2 k3 z TI TO i1 i2 i3 l1 l2 l3 i s.heap->SqK k1 X.K H l1 xs->SqK k2 X.K H l2 ys->SqK k3 X.K H l3 vs->H S=some (.lst zs)->zs.length=i->aFX H xs ys vs zs ->
  (∀ s' H' zs',Inv X pins σ H' s'->qB S H H'->H' S=some (.lst zs')->zs'.length=n->aFX H' xs ys vs zs'->R (.ok (.ret res)) s') ->
  codeAny (model X.prog X.w) A (.builtin "list.extend.loop" ⟨[.ref S,.ref z,res],[]⟩) R s:=by
 intro k
 induction k with
 | zero =>
  intro i s H zs hk hi I hf st ha hb hd hS hl hp hR
  have hin:i=n:=by omega
  subst hin
  obtain ⟨⟨f0,f1,hf0,hz0⟩,hTI,⟨x0,y0,v0,hTO⟩,h1,h2,h3⟩:=st
  obtain ⟨its,rv,pa⟩:=I.seqK ha
  obtain ⟨jts,rw',pb⟩:=I.seqK hb
  have la:=rv.length
  have lb:=rw'.length
  have hT:s.TypeIs (.ref z) "zip" := ⟨_,hz0,rfl⟩
  refine codeAny_builtin F.entry_extend_loop ?_
  rw [Around.under_plainId F.plain_extend_loop _]
  show wpAny _ A.in1 (pyNext (.ref z) >>= _) _ _ s
  refine wpAny_bind ?_
  unfold pyNext
  refine wpAny_bind (wpAny_attempt (wpAny_callSpecial?_slot (name:=Str.ofString "__next__") hT PySem.F.slot_zip_next (wpAny_call_entry PySem.F.slot_zip_next hT PySem.F.entry_zip_next
   (aC1 (A:=_) hA DD (oO k1 X.prog X.w i1 l1 its.toArray (DD.l1 _ (by simp))) hz0 hf0 hTI hTO (by rw [Qk,<- la,<- hn]; exact ⟨h1,pa⟩) fun h' e kp he=>?_) (PySem.F.args_zip_next_1 _))))
  obtain ⟨oe,hoe,hce⟩:=he
  refine wpAny_bind (wpAny_isInstance (T := "StopIteration") (b:=true) ⟨oe,hoe,hce⟩ isSubtype_stop (wpAny_pure ?_))
  refine wpAny_pure (hR _ H zs ?_ (fun _ _ _ e=>e) hS hl hp)
  refine I.turnedL (t':=s.toks) [z,TO,i1,i2,i3] (fun c o hc' e=>?_) (fun c hc'=>hf c ?_)
  ·simp only [Qj,Qq,or_false,not_or] at hc'
   exact kp c o hc'.1 hc'.2.1 hc'.2.2.1 hc'.2.2.2.1 hc'.2.2.2.2 e
  ·simp only [Qj,Qq,or_false] at hc' ⊢
   rcases hc' with r | r | r | r | r
   ·exact .inl r
   ·exact .inr (.inr (.inl r))
   ·exact .inr (.inr (.inr (.inl r)))
   ·exact .inr (.inr (.inr (.inr (.inl r))))
   ·exact .inr (.inr (.inr (.inr (.inr r))))
 | succ k ih =>
  intro i s H zs hk hi I hf st ha hb hd hS hl hp hR
  have hlt:i < n:=by omega
  have hlts:=st.lt
  obtain ⟨⟨f0,f1,hf0,hz0⟩,hTI,⟨x0,y0,v0,hTO⟩,h1,h2,h3⟩:=st
  have hi1:i < xs.length:=by omega
  have hi2:i < ys.length:=by omega
  have hi3:i < vs.length:=by omega
  have hx:xs[i]?=some xs[i]:=Qc hi1
  have hy:ys[i]?=some ys[i]:=Qc hi2
  have hv0:vs[i]?=some vs[i]:=Qc hi3
  generalize vs[i]=vv at hv0
  generalize xs[i]=x at hx
  generalize ys[i]=y at hy
  obtain ⟨its,rv,pa⟩:=I.seqK ha
  obtain ⟨jts,rw',pb⟩:=I.seqK hb
  obtain ⟨u,hu,ru⟩:=rv.get hx
  obtain ⟨v,hv,rv2⟩:=rw'.get hy
  obtain ⟨kts0,rd',pd⟩:=I.seqK hd
  obtain ⟨t3,ht3,rv3⟩:=rd'.get hv0
  have hT:s.TypeIs (.ref z) "zip" := ⟨_,hz0,rfl⟩
  have hs1:i < its.toArray.size:=by rw [Qk]; exact (Qd.mp hu).1
  have hs3:i < kts0.toArray.size:=by rw [Qk]; exact (Qd.mp ht3).1
  have hs2:i < jts.toArray.size:=by rw [Qk]; exact (Qd.mp hv).1
  refine codeAny_builtin F.entry_extend_loop ?_
  rw [Around.under_plainId F.plain_extend_loop _]
  show wpAny _ A.in1 (pyNext (.ref z) >>= _) _ _ s
  refine wpAny_bind ?_
  unfold pyNext
  refine wpAny_bind (wpAny_attempt (wpAny_callSpecial?_slot (name:=Str.ofString "__next__") hT PySem.F.slot_zip_next (wpAny_call_entry PySem.F.slot_zip_next hT PySem.F.entry_zip_next
   (aBU DD (oO k1 X.prog X.w i1 l1 its.toArray (DD.l1 _ (by simp))) (oO k2 X.prog X.w i2 l2 jts.toArray (DD.l2 _ (by simp))) (oO k3 X.prog X.w i3 l3 kts0.toArray (DD.l3 _ (by simp))) hz0 hf0 hTI hTO ⟨h1,pa⟩ ⟨h2,pb⟩ ⟨h3,pd⟩ hs1 hs2 hs3 fun h' u' v' t' g0 g1 pu pv pt hg0 hz' hTO' s1 s2 s3 hT' hsz kp=>wpAny_pure ?_) (PySem.F.args_zip_next_1 _))))
  have eu:u'=u:=by
   have q:its[i]?=some u':=by simpa using pu
   rw [hu] at q
   exact (Option.some.inj q).symm
  have ev:v'=v:=by
   have q:jts[i]?=some v':=by simpa using pv
   rw [hv] at q
   exact (Option.some.inj q).symm
  have et:t'=t3:=by
   have q:kts0[i]?=some t':=by simpa using pt
   rw [ht3] at q
   exact (Option.some.inj q).symm
  subst eu ev et
  have hf0':=I.hok.fresh (Qg s.heap.objs.size)
  have fz:=I.fpOk (Qg s.heap.objs.size) hf0'
  have I2:Inv X pins σ H { s with heap:=h' }:=by
   refine I.turnedL (t':=s.toks) [z,TO,i1,i2,i3] (fun c o hc' e=>?_) (fun c hc'=>hf c ?_)
   ·simp only [Qj,Qq,or_false,not_or] at hc'
    exact kp c o hc'.1 hc'.2.1 hc'.2.2.1 hc'.2.2.2.1 hc'.2.2.2.2 e
   ·simp only [Qj,Qq,or_false] at hc' ⊢
    rcases hc' with r | r | r | r | r
    ·exact .inl r
    ·exact .inr (.inr (.inl r))
    ·exact .inr (.inr (.inr (.inl r)))
    ·exact .inr (.inr (.inr (.inr (.inl r))))
    ·exact .inr (.inr (.inr (.inr (.inr r))))
  have I3:Inv X pins σ (upd H s.heap.objs.size (.tup [x,y,vv])) { s with heap:=h' }:=by
   refine I2.trackO (show cO X.prog X.w _ _ _ (.tup [x,y,vv]) from ⟨by show 3<=sizeLine; rw [sizeLine_eq]; decide,[u',v',t'],0,.cons ru (.cons rv2 (.cons rv3 .nil)),hT'⟩) hf0' fz.2.1 I.sz fz.2.2.2.2.1 fz.2.2.2.2.2
  have e3:∀ b o,H b=some o->upd H s.heap.objs.size (.tup [x,y,vv]) b=some o:=aD.new hf0'
  have qS:S≠s.heap.objs.size:=fun c=>by rw [c,hf0'] at hS; cases hS
  have t3:upd H s.heap.objs.size (.tup [x,y,vv]) s.heap.objs.size=some (.tup [x,y,vv]):=aB
  have hS3:=e3 _ _ hS
  have f3:∀ c∈[z,TI,TO,i1,i2,i3],hX X pins (upd H s.heap.objs.size (.tup [x,y,vv])) c:=fun c hc'=>⟨by rw [aK (Jp (hlts c hc'))]; exact (hf c hc').1,(hf c hc').2⟩
  generalize upd H s.heap.objs.size (.tup [x,y,vv])=H3 at I3 e3 t3 hS3 f3
  obtain ⟨zz,kts,nn,r,hkl,e⟩:=I3.lstM hS3
  show wpAny _ A.in1 (updateSeq S (·.push (.ref s.heap.objs.size)) >>= _) _ _ _
  refine wpAny_bind ?_
  have I4:=I3.lset (t':=s.toks) (its':=kts++[.ref s.heap.objs.size]) (f:=(·.push (.ref s.heap.objs.size))) (ys:=zs++[.ref s.heap.objs.size]) hS3 e (by simp) (r.append (.cons (show bI (.ref s.heap.objs.size) (.ref s.heap.objs.size) from rfl) .nil)) (by rw [Qt,Jw]; omega)
  have b4:qB S H (upd H3 S (.lst (zs++[.ref s.heap.objs.size]))):=fun b o nb q=>by rw [aK nb]; exact e3 _ _ q
  refine wpAny_updateSeq e rfl (wpAny_pure ⟨plainId_quiet F.plain_extend_loop _,ih (i+1) _ (upd H3 S (.lst (zs++[.ref s.heap.objs.size]))) (zs++[.ref s.heap.objs.size]) (by omega) hlt I4 (fun c hc'=>⟨by rw [aK (fun q:c=S=>nS (q ▸ hc'))]; exact (f3 c hc').1,(f3 c hc').2⟩) ?_ (b4.sq n1 ha) (b4.sq n2 hb) (b4.sq n3 hd) aB (by rw [Qt,Jw,hl]) ?_ fun s' H' zs' I' b' hS' hl' hp'=>hR s' H' zs' I' (fun b o nb q=>b' b o nb (b4 b o nb q)) hS' hl' hp'⟩)
   (by rw [Qk,<- hkl]; omega) (by show (kts.toArray.push _).size<=sizeLine+1; rw [Array.size_push,Qk,<- hkl]; omega)
  ·refine ZSt3.keep (h:=h') ⟨⟨_,_,hg0,hz'⟩,kp _ _ DD.TIz DD.TITO DD.TIi1 DD.TIi2 DD.TIi3 hTI,hTO',s1.1,s2.1,s3.1⟩ fun c hc' o q=>?_
   exact (Jo _ _ (fun q:S=c=>nS (q.symm ▸ hc'))).trans q
  ·intro j w hw
   by_cases hj:j < zs.length
   ·rw [Ji hj] at hw
    obtain ⟨q,x',y',v9,g1,g2,g3,g5,g4⟩:=hp j w hw
    exact ⟨q,x',y',v9,g1,g2,g3,g5,b4 _ _ (fun c=>by rw [c,hS] at g4; cases g4) g4⟩
   ·rw [Jm (by omega)] at hw
    have hj2:j - zs.length=0:=by
     have:=(Qd.mp hw).1
     rw [Jw] at this
     omega
    rw [hj2] at hw
    have ej:j=i:=by omega
    subst ej
    exact ⟨s.heap.objs.size,x,y,vv,(Option.some.inj hw).symm,hx,hy,hv0,by rw [aK (Ne.symm qS)]; exact t3⟩
def aBV (K:PySem.W.Frag) (k1 k2 k3:Sk) (ta:TA):TE:=fun σ H Q=>ta σ H fun us H1=>∃ a b d xs ys vs,us = [.ref a,.ref b,.ref d]/\SqK k1 K H1 a xs/\SqK k2 K H1 b ys/\SqK k3 K H1 d vs/\xs.length<=sizeLine/\ys.length=xs.length/\vs.length=xs.length/\∀ p zs H2,aD H1 H2->H1 p=none->H2 p=some (.lst zs)->zs.length=xs.length->aFX H2 xs ys vs zs->Q (.ref p) H2
theorem yW (k1 k2 k3:Sk) {a b d:Expr} {ta:TA} {p pos pos2:Pos} (hc:X.calm=true) (hgl:Gl X "list") (hml:X.mg "list" = none) (hg:Gl X "zip") (hm:X.mg "zip" = none) (ha:PA X [a,b,d] ta) (hs:starEach [a,b,d] X.env = [(false,eval a X.env),(false,eval b X.env),(false,eval d X.env)]:=by rfl) (hs2:starEach [b,d] X.env = [(false,eval b X.env),(false,eval d X.env)]:=by rfl) :
  PE X (.Call (.Name "list" p2) [.Call (.Name "zip" p) [a,b,d] [] pos] [] pos2) (aBV X.K k1 k2 k3 ta):=by
 intro pins s σ H Q I h
 refine wpAny_Call_Name_kw (jN (u:=.type "list") I hgl hml (by decide +kernel) ?_ (by decide) (by decide))
 refine PyProof.Rows.callWith_type1 ?_ rfl rfl
 show wpAny _ _ (spliced ((false,eval (.Call (.Name "zip" p) [a,b,d] [] pos) X.env)::[])) _ _ s
 refine Calls.spliced_cons ?_
 refine Call_ (jN (u:=.type "zip") I hg hm (by decide +kernel) (PyProof.Rows.callWith_type1 (thn (ha pos pins s σ H _ I h) fun us s1 hx9=>?_) (by rw [hs,hs2]) (by rw [hs2]; rfl)))
 obtain ⟨vs,H1,I1,r1,q1⟩:=hx9
 obtain ⟨l1,l2,l3,xs,ys,vs3,rfl,hA,hB,hC,hmn,hl2,hl3,q⟩:=q1
 obtain ⟨u1,u2,u3,rfl,r1',r2',r3'⟩:=aGZ r1
 cases r1'
 cases r2'
 cases r3'
 obtain ⟨its,rva,pa⟩:=I1.seqK hA
 obtain ⟨jts,rvb,pb⟩:=I1.seqK hB
 obtain ⟨kts,rvc,pc⟩:=I1.seqK hC
 refine callType_new PySem.F.called_zip (by decide) (sU _ _ _) (uO _ _ _) (fun obj=>nX obj _ _ _) PySem.F.entry_zip_new (aBR k1 k2 k3 l1 l2 l3 its.toArray jts.toArray kts.toArray) ⟨pa,pb,pc,?_⟩
 have n1:(yh1 k1 s1.heap l1).objs.size=s1.heap.objs.size+1:=Jl ..
 have n2:(yh2 k1 k2 s1.heap l1 l2).objs.size=s1.heap.objs.size+2:=by rw [Jl,n1]
 have n3:(yh3 k1 k2 k3 s1.heap l1 l2 l3).objs.size=s1.heap.objs.size+3:=by rw [Jl,n2]
 have n4:(yh4 k1 k2 k3 s1.heap l1 l2 l3).objs.size=s1.heap.objs.size+4:=by rw [Jl,n3]
 have n5:(yh5 k1 k2 k3 s1.heap l1 l2 l3).objs.size=s1.heap.objs.size+5:=by rw [Jl,n4]
 have g6:IsZip (yh6 k1 k2 k3 s1.heap l1 l2 l3) (yh5 k1 k2 k3 s1.heap l1 l2 l3).objs.size (yh3 k1 k2 k3 s1.heap l1 l2 l3).objs.size (yh4 k1 k2 k3 s1.heap l1 l2 l3).objs.size .none:=Qm _ rfl
 have g5:iC (yh6 k1 k2 k3 s1.heap l1 l2 l3) (yh4 k1 k2 k3 s1.heap l1 l2 l3).objs.size .none .none .none:=Qa _ (Qm _ rfl)
 have g4:iC (yh6 k1 k2 k3 s1.heap l1 l2 l3) (yh3 k1 k2 k3 s1.heap l1 l2 l3).objs.size (.ref s1.heap.objs.size) (.ref (yh1 k1 s1.heap l1).objs.size) (.ref (yh2 k1 k2 s1.heap l1 l2).objs.size):=Qa _ (Qa _ (Qm _ rfl))
 have g3:ItK k3 (yh6 k1 k2 k3 s1.heap l1 l2 l3) (yh2 k1 k2 s1.heap l1 l2).objs.size l3 0:=(ItK.new k3 (yh2 k1 k2 s1.heap l1 l2) l3).at fun o e=>Qa _ (Qa _ (Qa _ e))
 have g2:ItK k2 (yh6 k1 k2 k3 s1.heap l1 l2 l3) (yh1 k1 s1.heap l1).objs.size l2 0:=(ItK.new k2 (yh1 k1 s1.heap l1) l2).at fun o e=>Qa _ (Qa _ (Qa _ (Qa _ e)))
 have g1:ItK k1 (yh6 k1 k2 k3 s1.heap l1 l2 l3) s1.heap.objs.size l1 0:=(ItK.new k1 s1.heap l1).at fun o e=>Qa _ (Qa _ (Qa _ (Qa _ (Qa _ e))))
 have kp:∀ c o,s1.heap.get? c=some o->(yh6 k1 k2 k3 s1.heap l1 l2 l3).get? c=some o:=fun c o e=>Qa _ (Qa _ (Qa _ (Qa _ (Qa _ (Qa _ e)))))
 refine ⟨⟨_,g6,rfl⟩,?_⟩
 refine Calls.spliced_nil ?_
 rw [n1,n2,n3,n4,n5] at *
 have I2:Inv X pins σ H1 { s1 with heap:=yh6 k1 k2 k3 s1.heap l1 l2 l3 }:=I1.kept (t':=s1.toks) kp
 generalize yh6 k1 k2 k3 s1.heap l1 l2 l3=h5 at *
 have st:ZSt3 k1 k2 k3 (s1.heap.objs.size+5) (s1.heap.objs.size+3) (s1.heap.objs.size+4) s1.heap.objs.size (s1.heap.objs.size+1) (s1.heap.objs.size+2) l1 l2 l3 0 h5:=⟨⟨.none,false,.inl rfl,g6⟩,g4,⟨_,_,_,g5⟩,g1,g2,g3⟩
 have hge:∀ c∈[s1.heap.objs.size+5,s1.heap.objs.size+3,s1.heap.objs.size+4,s1.heap.objs.size,s1.heap.objs.size+1,s1.heap.objs.size+2],s1.heap.objs.size<=c/\c < s1.heap.objs.size+6:=fun c hc=>by
  simp only [Qj,Qq,or_false] at hc
  rcases hc with r | r | r | r | r | r <;> omega
 have hfp:∀ c∈[s1.heap.objs.size+5,s1.heap.objs.size+3,s1.heap.objs.size+4,s1.heap.objs.size,s1.heap.objs.size+1,s1.heap.objs.size+2],hX X pins H1 c:=fun c hc=>I1.fpOk (hge c hc).1 (I1.hok.fresh (hge c hc).1)
 have DD:Zip3Apart (s1.heap.objs.size+5) (s1.heap.objs.size+3) (s1.heap.objs.size+4) s1.heap.objs.size (s1.heap.objs.size+1) (s1.heap.objs.size+2) l1 l2 l3:=by
  have d:∀ i j:Nat,i≠j->s1.heap.objs.size+i≠s1.heap.objs.size+j:=fun i j h=>by omega
  have sub:∀ {l:Addr},(∀ c∈[s1.heap.objs.size+5,s1.heap.objs.size+3,s1.heap.objs.size+4,s1.heap.objs.size,s1.heap.objs.size+1,s1.heap.objs.size+2],l≠c)->∀ c∈[s1.heap.objs.size+5,s1.heap.objs.size+4,s1.heap.objs.size,s1.heap.objs.size+1,s1.heap.objs.size+2],l≠c:=fun h c hc=>h c (by
   rcases Qj.mp hc with r | r
   ·exact Qj.mpr (.inl r)
   ·exact Qs _ (Qs _ r))
  exact ⟨d 3 5 (by decide),d 4 5 (by decide),d 0 5 (by decide),d 1 5 (by decide),d 2 5 (by decide),d 3 4 (by decide),d 3 0 (by decide),d 3 1 (by decide),d 3 2 (by decide),d 4 0 (by decide),d 4 1 (by decide),d 4 2 (by decide),d 0 1 (by decide),d 0 2 (by decide),d 1 2 (by decide),sub fun c hc'=>I1.seq_ne hA (hfp c hc'),sub fun c hc'=>I1.seq_ne hB (hfp c hc'),sub fun c hc'=>I1.seq_ne hC (hfp c hc')⟩
 generalize hzz:s1.heap.objs.size+5=z at *
 generalize hTT:s1.heap.objs.size+3=TI at *
 generalize hTO':s1.heap.objs.size+4=TO at *
 generalize hi1':s1.heap.objs.size+1=i2 at *
 generalize hi3':s1.heap.objs.size+2=i3 at *
 have hsz:∀ c∈[z,TI,TO,s1.heap.objs.size,i2,i3],c < h5.objs.size:=st.lt
 generalize hs5:({ s1 with heap:=h5 }:Shared)=s5 at I2
 have e5:s5.heap=h5:=by rw [<- hs5]
 rw [<- e5] at st hsz g6
 have hT:s5.TypeIs (.ref z) "zip" := ⟨_,g6,rfl⟩
 refine callType_codes (Q₁:=fun obj s₁=>obj=.ref s5.heap.objs.size/\s₁={ s5 with heap:=s5.heap.push { cls:=.type "list",data:=.seq #[] } }) F.called_list (F.typeCall_list_1 _) F.entry_list_init
  (code_list_new _ ⟨rfl,rfl⟩) fun obj s₁ h₁=>?_
 obtain ⟨rfl,rfl⟩:=h₁
 have I6:=I2.lnew (t':=s5.toks) (ys:=[]) (its:=[]) .nil (Jj _)
 have hfr:=I2.fresh
 have hS6:upd H1 s5.heap.objs.size (.lst []) s5.heap.objs.size=some (.lst []):=aB
 have s6:aD H1 (upd H1 s5.heap.objs.size (.lst [])):=aD.new hfr
 have hfS:=I2.fpOk (H':=H1) (Qg s5.heap.objs.size) hfr
 have nl1:l1≠s5.heap.objs.size:=I2.seq_ne hA hfS
 have nl2:l2≠s5.heap.objs.size:=I2.seq_ne hB hfS
 have nl3:l3≠s5.heap.objs.size:=I2.seq_ne hC hfS
 have nS:s5.heap.objs.size∉[z,TI,TO,s1.heap.objs.size,i2,i3]:=fun c=>Qv _ (hsz _ c)
 have hf6:∀ c∈[z,TI,TO,s1.heap.objs.size,i2,i3],hX X pins (upd H1 s5.heap.objs.size (.lst [])) c:=fun c hc'=>⟨by rw [aK (Jp (hsz c hc'))]; exact (hfp c hc').1,(hfp c hc').2⟩
 have st6:ZSt3 k1 k2 k3 z TI TO s1.heap.objs.size i2 i3 l1 l2 l3 0 (s5.heap.push { cls:=.type "list",data:=.seq #[] }):=st.keep fun c _ o e=>Qa _ e
 have hS:(s5.heap.push { cls:=.type "list",data:=.seq #[] }).get? s5.heap.objs.size=some { cls:=.type "list",data:=.seq #[] }:=Qm _ rfl
 have bl6:qB s5.heap.objs.size H1 (upd H1 s5.heap.objs.size (.lst [])):=fun b o _ e=>s6 b o e
 refine ⟨⟨_,hS,rfl⟩,F.args_list_init_2 _ _,?_⟩
 show wpAny _ X.A.in1.in1 (do let old<-Builtin.List.listItems (.ref s5.heap.objs.size); Builtin.List.listUpdate (.ref s5.heap.objs.size) (fun _=>#[]); letGo old.toList.reverse; Builtin.List.listExtendWith (.ref s5.heap.objs.size) (.ref z) .none) _ _ _
 refine wpAny_bind ?_
 unfold Builtin.List.listItems
 refine wpAny_bind (wpAny_seqItems hS rfl (wpAny_pure ?_))
 show wpAny _ X.A.in1.in1 (updateSeq s5.heap.objs.size (fun _=>#[]) >>= fun _=>letGo (#[]:Array Value).toList.reverse >>= fun _=>Builtin.List.listExtendWith (.ref s5.heap.objs.size) (.ref z) .none) _ _ _
 refine wpAny_bind (wpAny_updateSeq hS rfl ?_)
 have I7:=I6.lset (t':=s5.toks) (f:=fun _=>#[]) (its':=[]) (ys:=[]) aB hS rfl .nil (Jj _)
 have hS7:=Xp (Obj.mapSeq (fun _=>(#[]:Array Value))) hS rfl
 have st7:=st6.keep (h':=(s5.heap.push { cls:=.type "list",data:=.seq #[] }).update s5.heap.objs.size (Obj.mapSeq (fun _=>(#[]:Array Value)))) fun c hc' o q=>(Jo _ _ (fun q:s5.heap.objs.size=c=>nS (q.symm ▸ hc'))).trans q
 have bl7:qB s5.heap.objs.size H1 (upd (upd H1 s5.heap.objs.size (.lst [])) s5.heap.objs.size (.lst [])):=fun b o nb e=>by rw [aK nb]; exact bl6 b o nb e
 have hf7:∀ c∈[z,TI,TO,s1.heap.objs.size,i2,i3],hX X pins (upd (upd H1 s5.heap.objs.size (.lst [])) s5.heap.objs.size (.lst [])) c:=fun c hc'=>⟨by rw [aK (Jp (hsz c hc'))]; exact (hf6 c hc').1,(hf6 c hc').2⟩
 have g7:IsZip ((s5.heap.push { cls:=.type "list",data:=.seq #[] }).update s5.heap.objs.size (Obj.mapSeq (fun _=>(#[]:Array Value)))) z TI TO .none:=(Jo _ _ (fun q:s5.heap.objs.size=z=>nS (by rw [q]; simp))).trans (Qa _ g6)
 refine wpAny_bind (wpAny_letGo ?_)
 generalize (s5.heap.push { cls:=.type "list",data:=.seq #[] }).update s5.heap.objs.size (Obj.mapSeq (fun _=>(#[]:Array Value)))=h7 at I7 hS7 st7 g7
 have hT7:({ s5 with heap:=h7 }:Shared).TypeIs (.ref z) "zip" := by obtain ⟨f0,f1,_,hz⟩:=st7.zp; exact ⟨_,hz,rfl⟩
 have neS:s5.heap.objs.size≠z:=fun e=>nS (by rw [e]; simp)
 unfold Builtin.List.listExtendWith
 refine wpAny_bind (wpAny_typeOf hT7 ?_)
 have h1:Builtin.List.listSameRef (.ref s5.heap.objs.size) (.ref z)=false:=by simp [Builtin.List.listSameRef,neS]
 have h2:(Value.type "zip" == Value.type "list")=false:=by decide
 have h3:(Value.type "zip" == Value.type "tuple")=false:=by decide
 simp only [h1,h2,h3,Wv,Xl,if_false]
 have key:∀ (H':Hp) (h':Heap),Inv X pins σ H' { s5 with heap:=h' }->qB s5.heap.objs.size H1 H'->(∀ c∈[z,TI,TO,s1.heap.objs.size,i2,i3],hX X pins H' c)->ZSt3 k1 k2 k3 z TI TO s1.heap.objs.size i2 i3 l1 l2 l3 0 h'->H' s5.heap.objs.size=some (.lst []) ->
   codeAny (model X.prog X.w) X.A.in1 (.builtin "list.extend.loop" ⟨[.ref s5.heap.objs.size,.ref z,.none],[]⟩) (wants (fun r s₂=>r=Value.none/\EP X pins σ Q (Value.ref s5.heap.objs.size) s₂) X.xe) { s5 with heap:=h' }:=by
  intro H' h' I' b' f' st' hS'
  refine sY hc X.A.in1 (I1.ok.hd hc) DD nS nl1 nl2 nl3 _ rfl hl2 hl3 hmn (xs.length - 0) 0 _ H' [] rfl (Jj _) I' f' st' (b'.sq nl1 hA) (b'.sq nl2 hB) (b'.sq nl3 hC) hS' rfl (fun j w hw=>by simp at hw) fun s' H2 zs I8 b8 hS8 hl8 hp8=>?_
  refine ⟨rfl,.ref s5.heap.objs.size,H2,I8,rfl,q _ zs H2 (fun b o e=>?_) hfr hS8 hl8 hp8⟩
  have nb:b≠s5.heap.objs.size:=fun c=>by rw [c,hfr] at e; cases e
  exact b8 b o nb (b' b o nb e)
 refine wpAny_bind (wpAny_pyIter_zip g7 ?_)
 refine wpAny_bind (wpAny_holding ?_)
 unfold Builtin.List.listLengthHint
 refine wpAny_bind (wpAny_specialOf hT7 sV ?_)
 show wpAny _ X.A.in1.in1 (specialOf (Value.ref z) (Str.ofString "__length_hint__") >>= _) _ _ _
 refine wpAny_bind (wpAny_specialOf hT7 qY ?_)
 refine wpAny_pure ?_
 refine wpAny_ite_split (fun _=>?_) (fun _=>wpAny_pure ⟨plainId_quiet F.plain_extend_loop _,key _ h7 I7 bl7 hf7 st7 aB⟩)
 refine wpAny_bind (wpAny_rule ?_)
 refine wpAny_bind ?_
 show wpAny _ X.A.in1.in1 (updateSeq s5.heap.objs.size (·.push .none) >>= fun _=>updateSeq s5.heap.objs.size (·.pop)) _ _ _
 refine wpAny_bind (wpAny_updateSeq hS7 rfl ?_)
 have I8:=I7.lset (t':=s5.toks) (f:=(·.push .none)) (its':=[.none]) (ys:=[.non]) aB hS7 rfl (.cons rfl .nil) (by rw [sizeLine_eq]; decide)
 have hS8:=Xp (Obj.mapSeq (·.push Value.none)) hS7 rfl
 refine wpAny_updateSeq (hz:=by seq_fits) hS8 rfl ?_
 have I9:=I8.lset (t':=s5.toks) (f:=(·.pop)) (its':=[]) (ys:=[]) aB hS8 rfl .nil (Jj _)
 refine wpAny_pure ⟨plainId_quiet F.plain_extend_loop _,key _ _ I9 (fun b o nb e=>?_) (fun c hc'=>?_) ?_ aB⟩
 ·rw [aK nb,aK nb]; exact bl7 b o nb e
 ·have nc:=Jp (hsz c hc')
  exact ⟨by rw [aK nc,aK nc]; exact (hf7 c hc').1,(hf7 c hc').2⟩
 ·exact st7.keep fun c hc' o q=>(Jo _ _ (fun q:s5.heap.objs.size=c=>nS (q.symm ▸ hc'))).trans ((Jo _ _ (fun q:s5.heap.objs.size=c=>nS (q.symm ▸ hc'))).trans q)
end
structure Fn (K:PySem.W.Frag) (mg:Str->Option Value) (x:Str) (st:Stmt) (ps:List Str) (f:Addr) (fd:FuncData):Prop where
 fn:Fun K x x st f fd
 mgx:mg x=some (.ref f)
 kp:PySem.W.keepIn K (.ref f)=true
 bd:uW K fd ps []
theorem bD {k:Nat} {p pos:Pos} {t:TA} (G:Fn X.K X.mg x st ps f fd) (ok:FnOk X.prog X.w X.K X.mg X.base CX0 k f fd ps sp) (hr:Room k X.A) (hg:Gl X x) (ha:PA X (e::es) t) (hdb:(x==("__debug__" : Str))=false:=by decide) (he:starEach (e::es) X.env=(false,eval e X.env)::starEach es X.env:=by rfl) (hpl:(backTo pos (starEach es X.env)).any (·.1)=false:=by rfl) :
  PE X (.Call (.Name x p) (e::es) [] pos) (aFb sp [] E0 t):=aD3 ok hr hg G.mgx G.kp G.bd .nil aGL ha hdb he hpl
structure Bl (mg:Str->Option Value):Prop where
 isinstance:mg "isinstance" = none
 int:mg "int" = none
 bool:mg "bool" = none
 tuple:mg "tuple" = none
 list:mg "list" = none
 len:mg "len" = none
 all:mg "all" = none
 zip:mg "zip" = none
 range:mg "range" = none
 sorted:mg "sorted" = none
 set:mg "set" = none
 sum:mg "sum" = none
 repr:mg "repr" = none
 max:mg "max" = none
 min:mg "min" = none
 any:mg "any" = none
 enumerate:mg "enumerate" = none
 hands:∃ t,mg "MOST_HANDS" = some (.int 6 t)
 works:∃ t,mg "MOST_WORKS" = some (.int 12 t)
 mw:∃ t,mg "MOST_WEIGHT" = some (.int 99 t)
 un:∃ t,mg "UNITS" = some (.int 60 t)
theorem jR:bootBuiltins "isinstance" = some (.builtin "isinstance"):=by decide +kernel
theorem aC2:bootBuiltins "int" = some (.type "int"):=by decide +kernel
theorem wO:bootBuiltins "bool" = some (.type "bool"):=by decide +kernel
theorem dY:bootBuiltins "tuple" = some (.type "tuple"):=by decide +kernel
theorem qC:bootBuiltins "list" = some (.type "list"):=by decide +kernel
theorem fJ:bootBuiltins "len" = some (.builtin "len"):=by decide +kernel
theorem vH:bootBuiltins "all" = some (.builtin "all"):=by decide +kernel
theorem aEo:bootBuiltins "range" = some (.type "range"):=by decide +kernel
theorem aG3:bootBuiltins "sum" = some (.builtin "sum"):=by decide +kernel
end L2
namespace Ab
open PySem L2
def top (i:Nat):Stmt:=PySem.Challenge.pw_ablehands_k23_shares_looked_at.main.body.getD i (.Pass ⟨0,0,0,0⟩)
abbrev nY:Stmt:=top 7
abbrev sZ:Stmt:=top 8
abbrev tD:Stmt:=top 9
abbrev tE:Stmt:=top 10
abbrev aAk:Stmt:=top 11
abbrev rL:Stmt:=top 13
abbrev nC:Stmt:=top 14
abbrev yX:Stmt:=top 15
abbrev aA0:Stmt:=top 16
abbrev kQ:Stmt:=top 17
abbrev qD:Stmt:=top 18
abbrev tF:Stmt:=top 21
abbrev oT:Stmt:=top 22
abbrev nD:Stmt:=top 24
abbrev yY:Stmt:=top 25
abbrev kR:Stmt:=top 26
abbrev jG:Stmt:=top 27
abbrev oU:Stmt:=top 29
abbrev wP:Stmt:=top 30
abbrev tG:Stmt:=top 33
abbrev jX:Stmt:=top 34
abbrev jY:Stmt:=top 35
abbrev qE:Stmt:=top 36
abbrev gT:Stmt:=top 37
abbrev qF:Stmt:=top 38
abbrev qG:Stmt:=top 39
abbrev mL:Stmt:=top 40
abbrev aA1:Stmt:=top 42
abbrev aA2:Stmt:=top 43
abbrev oV:Stmt:=top 44
abbrev rM:Stmt:=top 45
abbrev aA3:Stmt:=top 46
abbrev vI:Stmt:=top 47
abbrev oW:Stmt:=top 48
abbrev tH:Stmt:=top 49
abbrev aC3:Stmt:=top 50
abbrev wQ:Stmt:=top 51
abbrev lL:Stmt:=top 52
abbrev nZ:Stmt:=top 53
abbrev oX:Stmt:=top 54
abbrev aA4:Stmt:=top 55
abbrev yZ:Stmt:=top 56
abbrev aFY:Stmt:=top 57
def bU:PyData->Bool
 | .int _=>true
 | _=>false
def jS:PyData->Bool
 | .int i=>decide (1<=i) && decide (i<=6)
 | _=>false
def fZ (hands:Int):Int->List PyData->Bool
 | _,[]=>true
 | last,.int i::r=>decide (last < i) && decide (i < hands) && fZ hands i r
 | _,_::_=>false
def eC (hands:Int):PyData->Bool
 | .tuple ds=>!ds.isEmpty && fZ hands (-1) ds
 | _=>false
def aFZ:PyData->PyData->Bool
 | .int h,.tuple ws=>decide (1<=h) && decide (h<=6) && decide (ws.length<=12) && ws.all (eC h)
 | _,_=>false
def eK:PyData->Bool
 | .tuple [dh,dw]=>aFZ dh dw
 | _=>false
def jZ (K:PySem.W.Frag):Sp:=fun vs H Q _=>∃ x d,vs = [x]/\Den K H d x/\Q (.bl (bU d)) H
theorem aEp:FnScope ["thing"] ["thing"] (aI nY):=⟨rfl,rfl,rfl,by decide +kernel,rfl,by decide +kernel,by decide +kernel⟩
theorem oY (G:Fn K mg "is_whole" nY ["thing"] f fd) (B:Bl mg):FnOk P w K mg base CX0 1 f fd ["thing"] (jZ K):=by
 refine G.fn.ok aEp (fun vs H Q E h=>?_) (fun cdv A outer s H vs Q E hr h=>?_)
 ·obtain ⟨x,d,rfl,_⟩:=h
  rfl
 ·obtain ⟨x,d,rfl,hd,k⟩:=h
  refine ⟨_,aJ (aR (lC (aQ oM rfl B.isinstance jR (aA (pv 0) (aA (eW (v:=.ty "int") rfl B.int aC2 rfl) aC)))
   (lZ (aCq (aQ iQ rfl B.isinstance jR (aA (pv 0) (aA (eW (v:=.ty "bool") rfl B.bool wO rfl) aC))))))),?_⟩
  refine ⟨_,rfl,x,iA d,rfl,hd.kd,_,rfl,?_⟩
  refine gD (fun c=>?_) (fun c=>?_)
  ·refine ⟨_,rfl,x,iA d,rfl,hd.kd,_,rfl,?_⟩
   have e:(!decide (iA d=Kd.bl))=bU d:=by
    cases d <;> first | rfl | (exfalso; simp [iA] at c)
   rw [e]
   exact k
  ·have e:false=bU d:=by
    cases d <;> first | rfl | (exfalso; simp [iA] at c)
   rw [e]
   exact k
def aA5 (K:PySem.W.Frag):Sp:=fun vs H Q _=>∃ x d,vs = [x]/\Den K H d x/\Q (.bl (jS d)) H
theorem aEq:FnScope ["thing"] ["thing"] (aI sZ):=⟨rfl,rfl,rfl,by decide +kernel,rfl,by decide +kernel,by decide +kernel⟩
theorem aC4 (G:Fn K mg "are_hands" sZ ["thing"] f fd) (B:Bl mg) (W:Fn K mg "is_whole" nY ["thing"] fW fdW):FnOk P w K mg base CX0 2 f fd ["thing"] (aA5 K):=by
 have GW:FnOk P w K mg base CX0 1 fW fdW ["thing"] (jZ K):=oY W B
 obtain ⟨t6,h6⟩:=B.hands
 refine G.fn.ok aEq (fun vs H Q E h=>?_) (fun cdv A outer s H vs Q E hr h=>?_)
 ·obtain ⟨x,d,rfl,_⟩:=h
  rfl
 ·obtain ⟨x,d,rfl,hd,k⟩:=h
  refine ⟨_,aJ (aR (lC (bD W GW hr rfl (aA (pv 0) aC))
   (lZ (xX uV uV aG (pv 0) (mY (v:=.int 6) rfl h6 ⟨t6,rfl⟩))))),?_⟩
  refine ⟨_,rfl,x,d,rfl,hd,_,rfl,?_⟩
  refine gD (fun c=>?_) (fun c=>?_)
  ·obtain ⟨i,rfl⟩:∃ i,d=.int i:=by cases d <;> first | exact ⟨_,rfl⟩ | (exfalso; simp [bU] at c)
   obtain rfl:=bP.mp hd
   refine ⟨_,rfl,_,_,rfl,rfl,_,rfl,?_⟩
   refine gD (fun c1=>?_) (fun c1=>?_)
   ·refine ⟨_,_,rfl,rfl,?_⟩
    have e:decide (i<=6)=jS (.int i):=by
     show _=(decide (1<=i) && decide (i<=6))
     rw [c1,Jr]
    show Q (.bl (decide (i<=6))) H
    rw [e]; exact k
   ·have e:false=jS (.int i):=by
     show _=(decide (1<=i) && decide (i<=6))
     have c2:decide (1<=i)=false:=by simpa using c1
     rw [c2,Jz]
    rw [e]; exact k
  ·have e:false=jS d:=by cases d <;> first | rfl | (exfalso; simp [bU] at c)
   rw [e]; exact k
theorem jB (h l i:Int) (r:List PyData):fZ h l (.int i::r)=(decide (l < i) && decide (i < h) && fZ h i r):=by rw [fZ]
theorem tI (h l:Int) (d:PyData) (r:List PyData) (n:bU d=false):fZ h l (d::r)=false:=by
 cases d <;> first | rfl | (simp [bU] at n)
def aA6 (K:PySem.W.Frag):Sp:=fun vs H Q _=>∃ n x d,vs = [.int n,x]/\Den K H d x/\Q (.bl (eC n d)) H
theorem rN:FnScope ["hands", "thing", "last", "hand"] ["hands", "thing"] (aI tD):=⟨rfl,rfl,rfl,by decide +kernel,rfl,by decide +kernel,by decide +kernel⟩
theorem aC5 (G:Fn K mg "is_work" tD ["hands", "thing"] f fd) (B:Bl mg) (W:Fn K mg "is_whole" nY ["thing"] fW fdW):FnOk P w K mg base CX0 2 f fd ["hands", "thing"] (aA6 K):=by
 have GW:FnOk P w K mg base CX0 1 fW fdW ["thing"] (jZ K):=oY W B
 refine G.fn.ok rN (fun vs H Q E h=>?_) (fun cdv A outer s H vs Q E hr h=>?_)
 ·obtain ⟨n,x,d,rfl,_⟩:=h
  rfl
 ·obtain ⟨n,x,d,rfl,hd,k⟩:=h
  refine ⟨_,aE (cX (PW.pt (iS (dJ (cL (aQ cQ rfl B.isinstance jR (aA (pv 1) (aA (eW (v:=.ty "tuple") rfl B.tuple dY rfl) aC)))))
    (jA (bF xV (aQ aV rfl B.len fJ (aA (pv 1) aC)) aG (bK _))))) (aJ (aR dG)) bM)
   (aE (aS (i:=2) rN.nd rfl (Or.inl rfl) (oK lE aG))
   (aE (cU PassesOwn.never rfl (gC (pv 1)) (aM (i:=3) rN.nd rfl (Or.inl rfl))
    (aE (cX (PW.pt (iS (dJ (cL (bD W GW hr rfl (aA (pv 3) aC)))) (iS (bF uV (pv 3) (pv 2) (bK _)) (jA (bF xW (pv 3) (pv 0) (bK _)))))) (aJ (aR dG)) bM)
    (aJ (aS (i:=2) rN.nd rfl (Or.inl rfl) (pv 3)))))
   (aJ (aR dG)))),?_⟩
  refine ⟨_,rfl,x,iA d,rfl,hd.kd,_,rfl,?_⟩
  refine gD (fun c=>?_) (fun c=>?_)
  ·-- not a tuple
   refine hZ ?_
   have e:false=eC n d:=by
    cases d <;> first | rfl | (exfalso; simp [iA] at c)
   rw [e]; exact k
  ·obtain ⟨ds,rfl⟩:∃ ds,d=.tuple ds:=by cases d <;> first | exact ⟨_,rfl⟩ | (exfalso; simp [iA] at c)
   obtain ⟨a,xs,rfl,ha,hds⟩:=bB.mp hd
   have hl:=aF hds
   refine ⟨_,rfl,a,xs,rfl,.inr ha,rfl,_,rfl,?_⟩
   refine gD (fun c2=>?_) (fun c2=>?_)
   ·have e:false=eC n (.tuple ds):=by
     have e1:ds = []:=by
      have:(xs.length:Int)=0:=by simpa using c2
      exact Wc.mp (by omega)
     rw [e1]; rfl
    rw [e]; exact k
   ·have hne:ds≠[]:=by
     intro z
     apply c2
     rw [z] at hl
     simp [hl]
    have e0:eC n (.tuple ds)=fZ n (-1) ds:=by
     show (!ds.isEmpty && fZ n (-1) ds)=_
     cases ds with
     | nil=>exact absurd rfl hne
     | cons _ _=>rfl
    rw [e0] at k
    refine ⟨_,rfl,?_⟩
    refine ⟨_,rfl,a,rfl,⟨xs,ha⟩,oJ (K:=K) (a:=a) (xs:=xs) (fun i σ H2=>∃ (last:Int) (v:Option V),σ = [some (.int n),some (.ref a),some (.int last),v]/\H2=H/\fZ n (-1) ds=fZ n last (ds.drop i))
     ⟨-1,none,rfl,rfl,rfl⟩ (fun i σ H2 _ ⟨_,_,_,e,_⟩=>by rw [e]; exact ha) ?_ ?_⟩
    ·rintro i y σ H2 hi ⟨last,v,rfl,rfl,hr2⟩
     obtain ⟨dy,hdy,hden⟩:=nB hds hi
     have hdrop:ds.drop i=dy::ds.drop (i+1):=by
      obtain ⟨hlt,e⟩:=Qd.mp hdy
      rw [Yv hlt,e]
     rw [hdrop] at hr2
     refine ⟨_,rfl,y,dy,rfl,hden,_,rfl,?_⟩
     refine gD (fun c3=>?_) (fun c3=>?_)
     ·refine hZ ?_
      have e:false=fZ n (-1) ds:=by rw [hr2,tI]; simpa using c3
      rw [e]; exact k
     ·obtain ⟨j,rfl⟩:∃ j,dy=.int j:=by cases dy <;> first | exact ⟨_,rfl⟩ | (exfalso; simp [bU] at c3)
      obtain rfl:=bP.mp hden
      rw [jB] at hr2
      refine ⟨_,rfl,_,rfl,_,_,rfl,rfl,_,rfl,?_⟩
      refine gD (fun c4=>?_) (fun c4=>?_)
      ·refine hZ ?_
       have c4':j<=last:=of_decide_eq_true c4
       have e:false=fZ n (-1) ds:=by rw [hr2,decide_eq_false (by omega:¬ last < j)]; rfl
       rw [e]; exact k
      ·have c4':¬ j<=last:=fun z=>c4 (decide_eq_true z)
       refine ⟨_,rfl,_,rfl,_,_,rfl,rfl,_,rfl,?_⟩
       refine gD (fun c5=>?_) (fun c5=>?_)
       ·have c5':n<=j:=of_decide_eq_true c5
        have e:false=fZ n (-1) ds:=by rw [hr2,decide_eq_false (by omega:¬ j < n),Wm]; rfl
        rw [e]; exact k
       ·have c5':¬ n<=j:=fun z=>c5 (decide_eq_true z)
        refine ⟨_,rfl,j,some (.int j),rfl,rfl,?_⟩
        rw [hr2,decide_eq_true (by omega:last < j),decide_eq_true (by omega:j < n)]
        rfl
    ·rintro σ H2 ⟨last,v,rfl,rfl,hr2⟩
     have e:true=fZ n (-1) ds:=by
      rw [hr2,hl,List.drop_length]
      rfl
     show Q (.bl true) _
     rw [e]; exact k
theorem eL {i:Nat} {x:V} {σ:St} {A B:St->Hp->Prop} (h:A (σ.set i (some x)) H):cH i x σ H fun σ2 H2=>aBG σ2 H2 fun b H3=>if b=true then A σ2 H3 else B σ2 H3:=by
 show if true=true then A (σ.set i (some x)) H else B (σ.set i (some x)) H
 exact hZ h
def aA7 (K:PySem.W.Frag):Sp:=fun vs H Q _=>∃ x d,vs = [x]/\Den K H d x/\∀ H',aD H H'->Q (.bl (eK d)) H'
theorem wR:FnScope ["thing", "hands", "works"] ["thing"] (aI tE):=⟨rfl,rfl,rfl,by decide +kernel,rfl,by decide +kernel,by decide +kernel⟩
theorem aC6 {fdH fdK:FuncData} (G:Fn K mg "is_book" tE ["thing"] f fd) (B:Bl mg) (W:Fn K mg "is_whole" nY ["thing"] fW fdW) (GH:Fn K mg "are_hands" sZ ["thing"] fH fdH) (GK:Fn K mg "is_work" tD ["hands", "thing"] fK fdK):FnOk P w K mg base CX0 3 f fd ["thing"] (aA7 K):=by
 have OH:FnOk P w K mg base CX0 2 fH fdH ["thing"] (aA5 K):=aC4 GH B W
 have OK:FnOk P w K mg base CX0 2 fK fdK ["hands", "thing"] (aA6 K):=aC5 GK B W
 obtain ⟨t12,h12⟩:=B.works
 refine G.fn.ok wR (fun vs H Q E h=>?_) (fun cdv A outer s H vs Q E hr h=>?_)
 ·obtain ⟨x,d,rfl,_⟩:=h
  rfl
 ·obtain ⟨x,d,rfl,hd,k⟩:=h
  refine ⟨_,aE (cX (PW.pt (iS (dJ (cL (aQ cQ rfl B.isinstance jR (aA (pv 0) (aA (eW (v:=.ty "tuple") rfl B.tuple dY rfl) aC)))))
    (jA (bF mC (aQ aV rfl B.len fJ (aA (pv 0) aC)) aG (bK _))))) (aJ (aR dG)) bM)
   (aE (lD (pv 0) (kE rfl (aX (aM (i:=1) wR.nd rfl (Or.inr rfl)) (aX (aM (i:=2) wR.nd rfl (Or.inl rfl)) dQ))))
   (aE (cX (dJ (cL (bD GH OH hr rfl (aA (pv 1) aC)))) (aJ (aR dG)) bM)
   (aE (cX (PW.pt (iS (dJ (cL (aQ cQ rfl B.isinstance jR (aA (pv 2) (aA (eW (v:=.ty "tuple") rfl B.tuple dY rfl) aC)))))
    (jA (bF mD (aQ aV rfl B.len fJ (aA (pv 2) aC)) (mY (v:=.int 12) rfl h12 ⟨t12,rfl⟩) (bK _))))) (aJ (aR dG)) bM)
   (aJ (aR (aQ (kM rfl) rfl B.all vH (aA
    (cF (own:=["work"]) (fr:=[1]) (frn:=["hands"]) (aW (aI tE) ["thing", "hands", "works"] rfl rfl (by decide +kernel)) rfl (gC (pv 2))
     (fun _ _ _ _=>aM (i:=0) (show (["work", "hands"]:List Str).Nodup by decide +kernel) rfl (Or.inl rfl)) (fun _ _ _ _=>cJ) (fun _ _ _ _=>bD GK OK hr rfl (aA (pv 1) (aA (pv 0) aC)))) aC))))))),?_⟩
  refine ⟨_,rfl,x,iA d,rfl,hd.kd,_,rfl,?_⟩
  refine gD (fun c=>?_) (fun c=>?_)
  ·refine hZ ?_
   have e:false=eK d:=by
    cases d <;> first | rfl | (exfalso; simp [iA] at c)
   rw [e]; exact k H (aD.refl H)
  ·obtain ⟨ds,rfl⟩:∃ ds,d=.tuple ds:=by cases d <;> first | exact ⟨_,rfl⟩ | (exfalso; simp [iA] at c)
   obtain ⟨a,xs,rfl,ha,hds⟩:=bB.mp hd
   have hl:=aF hds
   refine ⟨_,rfl,a,xs,rfl,.inr ha,rfl,_,rfl,?_⟩
   refine gD (fun c2=>?_) (fun c2=>?_)
   ·have e:false=eK (.tuple ds):=by
     match ds,hl,c2 with
     | [],_,_=>rfl
     | [_],_,_=>rfl
     | [_,_],hl,c2=>exfalso; rw [hl] at c2; simp at c2
     | _::_::_::_,_,_=>rfl
    rw [e]; exact k H (aD.refl H)
   ·obtain ⟨dh,dw,rfl⟩:∃ dh dw,ds = [dh,dw]:=by
     match ds,hl,c2 with
     | [],hl,c2=>exfalso; rw [hl] at c2; simp at c2
     | [_],hl,c2=>exfalso; rw [hl] at c2; simp at c2
     | [p,q],_,_=>exact ⟨p,q,rfl⟩
     | p::q::r::t,hl,c2=>exfalso; apply c2; rw [hl]; simp; omega
    obtain ⟨xh,r1,rfl,hh,h2⟩:=aH.mp hds
    obtain ⟨xw,r2,rfl,hw,h3⟩:=aH.mp h2
    obtain rfl:=aL.mp h3
    -- hands,works=thing
    refine ⟨_,rfl,a,_,rfl,ha,rfl,_,_,rfl,_,_,rfl,rfl,?_⟩
    -- are_hands(hands)
    refine ⟨_,rfl,xh,dh,rfl,hh,_,rfl,?_⟩
    refine gD (fun c3=>?_) (fun c3=>?_)
    ·have e:false=eK (.tuple [dh,dw]):=by
      have c3':jS dh=false:=by simpa using c3
      cases dh with
      | int n =>
       cases dw with
       | tuple ws =>
        have c4:(decide (1<=n) && decide (n<=6))=false:=c3'
        show _=(decide (1<=n) && decide (n<=6) && decide (ws.length<=12) && ws.all (eC n))
        rw [c4]; rfl
       | _=>rfl
      | _=>rfl
     rw [e]; exact k H (aD.refl H)
    ·obtain ⟨n,rfl,hn⟩:∃ n,dh=.int n/\(decide (1<=n) && decide (n<=6))=true:=by
      cases dh <;> first | exact ⟨_,rfl,by simpa [jS] using c3⟩ | (exfalso; simp [jS] at c3)
     obtain rfl:=bP.mp hh
     refine ⟨_,rfl,xw,iA dw,rfl,hw.kd,_,rfl,?_⟩
     refine gD (fun c5=>?_) (fun c5=>?_)
     ·refine hZ ?_
      have e:false=eK (.tuple [.int n,dw]):=by
       cases dw <;> first | rfl | (exfalso; simp [iA] at c5)
      rw [e]; exact k H (aD.refl H)
     ·obtain ⟨ws,rfl⟩:∃ ws,dw=.tuple ws:=by cases dw <;> first | exact ⟨_,rfl⟩ | (exfalso; simp [iA] at c5)
      obtain ⟨b,ys,rfl,hb,hws⟩:=bB.mp hw
      have hlw:=aF hws
      have eB:eK (.tuple [.int n,.tuple ws])=(decide (ws.length<=12) && ws.all (eC n)):=by
       show (decide (1<=n) && decide (n<=6) && decide (ws.length<=12) && ws.all (eC n))=_
       rw [hn,Jr]
      rw [eB] at k
      refine ⟨_,rfl,b,ys,rfl,.inr hb,_,_,rfl,rfl,_,rfl,?_⟩
      refine gD (fun c6=>?_) (fun c6=>?_)
      ·have c6':(12:Int) < ys.length:=of_decide_eq_true c6
       have e:false=(decide (ws.length<=12) && ws.all (eC n)):=by rw [decide_eq_false (by omega:¬ ws.length<=12)]; rfl
       rw [e]; exact k H (aD.refl H)
      ·have c6':¬ (12:Int) < ys.length:=fun z=>c6 (decide_eq_true z)
       have e1:decide (ws.length<=12)=true:=decide_eq_true (by omega)
       rw [e1,Jr] at k
       refine ⟨_,rfl,b,rfl,⟨ys,hb⟩,mH (K:=K) (a:=b) (xs:=ys) (fun σ=>∃ v,σ = [v,some (.int n)]) (fun i zs H2=>H2=H/\zs=((ws.take i).map (eC n)).map V.bl) ?_ ⟨none,rfl⟩ ⟨rfl,rfl⟩ ?_ ?_ ?_ ?_⟩
       ·rw [sizeLine_eq]; omega
       ·rintro i zs H2 ⟨_,rfl⟩
        rw [Qb,Qb,Ja]; omega
       ·rintro i zs H2 ⟨rfl,_⟩
        exact hb
       ·rintro i zs σ x H2 hx ⟨v,rfl⟩ ⟨rfl,rfl⟩ hz
        obtain ⟨dx,hdx,hden⟩:=nB hws hx
        refine eL ?_
        refine ⟨_,rfl,_,rfl,n,x,dx,rfl,hden,hz,⟨some x,rfl⟩,rfl,?_⟩
        rw [Wl,hdx]
        simp
       ·rintro zs H2 ⟨rfl,rfl⟩ p hp
        refine ⟨p,_,rfl,SqL.of aB,?_⟩
        have e2:((ws.take ys.length).map (eC n)).all id=ws.all (eC n):=by
         rw [hlw,Jh,Ys]
         rfl
        rw [e2]
        exact k _ (aD.new hp)
def eV (l:List Int):PyData:=.tuple (l.map .int)
def eM (n:Int) (ws:List (List Int)):PyData:=.tuple [.int n,.tuple (ws.map eV)]
def aFh (hs:List Int):PyData:=.tuple (hs.map .int)
def aC7:PyData->List Int->Bool
 | .int i,l=>l.any (·==i)
 | _,_=>false
def aG4 (ws:List (List Int)):PyData->Bool
 | .tuple hs=>decide (hs.length=ws.length) && (hs.zip ws).all fun p=>aC7 p.1 p.2
 | _=>false
theorem jL (l:List Int):(l.map V.int).all nQ=true:=by
 rw [Ys]
 exact Qy.mpr fun _ _=>rfl
theorem aEr (i:Int) (l:List Int):inV (.int i) (l.map V.int)=l.any (·==i):=by
 unfold inV
 rw [Yj]
 rfl
theorem fM {n:Int} {x:V} (h:Den K H (eM n ws) x):∃ a b ys,x=.ref a/\SqT K H a [.int n,.ref b]/\SqT K H b ys/\aN K H (ws.map eV) ys:=by
 obtain ⟨a,xs,rfl,ha,hds⟩:=bB.mp h
 obtain ⟨xh,r1,rfl,hh,h2⟩:=aH.mp hds
 obtain ⟨xw,r2,rfl,hw,h3⟩:=aH.mp h2
 obtain rfl:=aL.mp h3
 obtain rfl:=bP.mp hh
 obtain ⟨b,ys,rfl,hb,hys⟩:=bB.mp hw
 exact ⟨a,b,ys,rfl,ha,hb,hys⟩
theorem cC {n:Int} (h:eK (eM n ws)=true):1<=n/\n<=6/\ws.length<=12/\∀ l∈ws,eC n (eV l)=true:=by
 have h':(decide (1<=n) && decide (n<=6) && decide ((ws.map eV).length<=12) && (ws.map eV).all (eC n))=true:=h
 simp only [Jb,decide_eq_true_eq,Qb,Qy] at h'
 exact ⟨h'.1.1.1,h'.1.1.2,h'.1.2,fun l hl=>h'.2 _ (Qz.mpr ⟨l,hl,rfl⟩)⟩
theorem jH {pos:Pos} {k:Nat} {t:TGs} (hK:X.K=K) (hc:X.calm=true) (h:PGs X es t) (hn:(assignEach es X.env).length=n:=by rfl) (hst:(assignEach es X.env).findIdx? (·.1)=none:=by rfl):PG X (.Tuple es k pos) (aGv K n t):=by
 subst hK
 exact kE hc h hn hst
theorem aAl (hK:X.K=K):OpR X (compareOp .In) (rIn K false):=by subst hK; exact pT
theorem bT (hK:X.K=K):IxR X (aGJ K):=by subst hK; exact bO
theorem gF (hK:X.K=K):gQ X (.type "tuple") (fun xs H Q=>∃ p ys,xs = [.ref p]/\((SqL K H p ys/\∀ l,H l=none->Q (.ref l) (upd H l (.tup ys)))∨(SqT K H p ys/\Q (.ref p) H))):=by subst hK; exact fX
structure Pr (K:PySem.W.Frag) (mg:Str->Option Value) (fW fH fK fB fNB:Addr) (dW dH dK dB dNB:FuncData):Prop where
 W:Fn K mg "is_whole" nY ["thing"] fW dW
 H:Fn K mg "are_hands" sZ ["thing"] fH dH
 Kw:Fn K mg "is_work" tD ["hands", "thing"] fK dK
 B:Fn K mg "is_book" tE ["thing"] fB dB
 NB:Fn K mg "need_book" aAk ["book"] fNB dNB
def aA8 (K:PySem.W.Frag):Sp:=fun vs H Q _=>∃ x d,vs = [x]/\Den K H d x/\eK d=true/\∀ H',aD H H'->Q .non H'
theorem aEs:FnScope ["book"] ["book"] (aI aAk):=⟨rfl,rfl,rfl,by decide +kernel,rfl,by decide +kernel,by decide +kernel⟩
theorem aC8 (B:Bl mg) (R:Pr K mg fW fH fK fB fNB dW dH dK dB dNB):FnOk P w K mg base CX0 4 fNB dNB ["book"] (aA8 K):=by
 have OB:FnOk P w K mg base CX0 3 fB dB ["thing"] (aA7 K):=aC6 R.B B R.W R.H R.Kw
 refine R.NB.fn.ok aEs (fun vs H Q E h=>?_) (fun cdv A outer s H vs Q E hr h=>?_)
 ·obtain ⟨x,d,rfl,_⟩:=h
  rfl
 ·obtain ⟨x,d,rfl,hd,hb,k⟩:=h
  refine ⟨_,aJ (cX (dJ (cL (bD R.B OB hr rfl (aA (pv 0) aC)))) uT bM),?_⟩
  refine ⟨_,rfl,x,d,rfl,hd,fun H' hs=>⟨_,rfl,?_⟩⟩
  rw [hb]
  refine gR ?_
  exact k H' hs
theorem mM {i:Nat} (h:i < n):(bN n)[i]?=some (i:Int):=by
 unfold bN
 rw [Qh,Xc h]
 rfl
theorem cS (n:Nat):(bN n).length=n:=by unfold bN; rw [Qb,Xk]
theorem aF0 {o:Expr} {t:TA} {id:String} {r:V->List V->Hp->VK->Prop} (hK:X.K=K) (pa:PlainAttrs T) (slot:Slot T name id) (hty:typeOf (.builtin id)=pure (.type "method_descriptor")) (hm:MtR X id r) (ho:PE X o to) (ha:PA X (e::es) t) (hbase:attributeBase o name X.env (eval o X.env)=eval o X.env:=by rfl) (hfew:((backTo cpos (starEach (e::es) X.env)).all (fun x=>!x.1) && (backToKw cpos (keywordEach [] X.env)).all (fun x=>x.1.isSome)
   && decide ((e::es).length+([]:List Keyword).length+(if ([]:List Keyword).isEmpty then 0 else 1) < 30))=true:=by rfl) (hline:(apos.endLine==cpos.line)=true:=by rfl) (hs:starEach (e::es) X.env=(false,eval e X.env)::starEach es X.env:=by rfl) (hplain:(backTo cpos (starEach es X.env)).any (·.1)=false:=by rfl) :
  PE X (.Call (.Attribute o name apos) (e::es) [] cpos) (tBM K T r to t):=by
 subst hK
 exact kL pa slot hty hm ho ha hbase hfew hline hs hplain
def aC9 (K:PySem.W.Frag) (H:Hp) (x y:V) (n:Int) (ws:List (List Int)) (hs:List Int):Prop:=Den K H (eM n ws) x/\eK (eM n ws)=true/\Den K H (aFh hs) y/\aG4 ws (aFh hs)=true
theorem aC9.same {x:V} {n:Int} {hs:List Int} (g:aC9 K H x y n ws hs) (e:aD H H'):aC9 K H' x y n ws hs:=⟨e.den _ _ g.1,g.2.1,e.den _ _ g.2.2.1,g.2.2.2⟩
theorem aC9.len {x:V} {n:Int} {hs:List Int} (g:aC9 K H x y n ws hs):hs.length<=12/\1<=n/\n<=6:=by
 obtain ⟨h1,h2,h3,_⟩:=cC g.2.1
 have h:(decide ((hs.map PyData.int).length=ws.length) && ((hs.map PyData.int).zip ws).all fun p=>aC7 p.1 p.2)=true:=g.2.2.2
 simp only [Jb,decide_eq_true_eq,Qb] at h
 omega
def But (t:Addr) (H H':Hp):Prop:=∀ b o,b≠t->H b=some o->H' b=some o
theorem But.refl (t:Addr) (H:Hp):But t H H:=fun _ _ _ h=>h
theorem But.trans {t:Addr} (a:But t H H1) (b:But t H1 H2):But t H H2:=fun c o n h=>b c o n (a c o n h)
theorem But.of {t:Addr} (a:aD H H'):But t H H':=fun c o _ h=>a c o h
theorem But.at {t:Addr} {u:HO}:But t H (upd H t u):=fun c o n h=>by rw [aK n]; exact h
theorem But.free {t:Addr} (e:But t H H') {l:Addr} (h:H' l=none) (n:l≠t):H l=none:=by
 cases q:H l with
 | none=>rfl
 | some o=>rw [e l o n q] at h; cases h
theorem But.rdL {t:Addr} (e:But t H H') (n:a≠t) (h:Rd H a (.lst xs)):Rd H' a (.lst xs):=by
 rcases h with h | ⟨o,h⟩
 ·exact .inl (e a _ n h)
 ·exact .inr ⟨o,e a _ n h⟩
section
variable {t:Addr}
theorem But.seqT (e:But t H H') (ht:H t=some (.lst ys)) (h:SqT K H a xs):SqT K H' a xs:=by
 rcases h with (h | ⟨o,h⟩) | h
 ·exact .inl (.inl (e a _ (fun z=>by rw [z,ht] at h; cases h) h))
 ·exact .inl (.inr ⟨o,e a _ (fun z=>by rw [z,ht] at h; cases h) h⟩)
 ·exact .inr h
theorem But.seqL (e:But t H H') (n:a≠t) (h:SqL K H a xs):SqL K H' a xs:=by
 rcases h with h | h
 ·exact .inl (e.rdL n h)
 ·exact .inr h
mutual
def eS:PyData->Bool
 | .dict _=>false
 | .list _=>false
 | .tuple ds=>eG ds
 | _=>true
def eG:List PyData->Bool
 | []=>true
 | d::ds=>eS d && eG ds
end
mutual
theorem But.den (e:But t H H') (ht:H t=some (.lst ys)):∀ (d:PyData) (v:V),eS d=true->Den K H d v->Den K H' d v
 | .none,v,_,h=>by unfold Den at h ⊢; exact h
 | .bool b,v,_,h=>by unfold Den at h ⊢; exact h
 | .int i,v,_,h=>by unfold Den at h ⊢; exact h
 | .str x,v,_,h=>by unfold Den at h ⊢; exact h
 | .list ds,v,n,h=>by unfold eS at n; cases n
 | .tuple ds,v,n,h=>by unfold eS at n; unfold Den at h ⊢; obtain ⟨a,xs,h1,h2,h3⟩:=h; exact ⟨a,xs,h1,e.seqT ht h2,But.denAll e ht ds xs n h3⟩
 | .dict kvs,v,n,h=>by unfold eS at n; cases n
theorem But.denAll (e:But t H H') (ht:H t=some (.lst ys)):∀ (ds:List PyData) (xs:List V),eG ds=true->aN K H ds xs->aN K H' ds xs
 | [],xs,_,h=>by unfold aN at h ⊢; exact h
 | d::ds,xs,n,h=>by
  unfold eG at n; rw [Jb] at n
  unfold aN at h ⊢; obtain ⟨x,r,h1,h2,h3⟩:=h; exact ⟨x,r,h1,But.den e ht d x n.1 h2,But.denAll e ht ds r n.2 h3⟩
end
end
theorem gG (f:α->PyData) (h:∀ x,eS (f x)=true):∀ l:List α,eG (l.map f)=true
 | []=>by unfold List.map eG; rfl
 | x::r=>by rw [Jk]; unfold eG; rw [h x,gG f h r]; rfl
theorem aAm (i:Int):eS (.int i)=true:=by unfold eS; rfl
theorem iW (l:List Int):eS (eV l)=true:=by unfold eV eS; exact gG _ aAm l
theorem sz1 (x:V) : [x].length<=sizeLine:=by rw [sizeLine_eq]; simp
theorem sz2 (x y:V) : [x,y].length<=sizeLine:=by rw [sizeLine_eq]; simp
theorem cA (h:n<=1000):n<=sizeLine:=by rw [sizeLine_eq]; omega
def iX (K:PySem.W.Frag) (H:Hp) (t a:Addr) (ns:List Int):Prop:=∃ q:Int,H t=some (.lst [.int q])
theorem iX.same {t:Addr} (h:iX K H t a ns) (e:aD H H'):iX K H' t a ns:=by
 obtain ⟨q,h2⟩:=h
 exact ⟨q,e t _ h2⟩
theorem iX.den {t:Addr} (h:iX K H t a ns) (e:But t H H') {d:PyData} (n:eS d=true) (hd:Den K H d v):Den K H' d v:=by
 obtain ⟨q,h2⟩:=h
 exact e.den h2 d v n hd
theorem iX.denAll {t:Addr} (h:iX K H t a ns) (e:But t H H') (n:eG ds=true) (hd:aN K H ds vs):aN K H' ds vs:=by
 obtain ⟨q,h2⟩:=h
 exact e.denAll h2 ds vs n hd
theorem iX.seqT {t:Addr} (h:iX K H t a ns) (e:But t H H') (hd:SqT K H b xs):SqT K H' b xs:=by
 obtain ⟨q,h2⟩:=h
 exact e.seqT h2 hd
theorem iX.ne {t:Addr} (h:iX K H t a ns) (hb:H b=none):b≠t:=by
 obtain ⟨q,h2⟩:=h
 intro z
 rw [z,h2] at hb
 cases hb
theorem iX.wr {t:Addr} (T:iX K H t a ns) (b:But f H H') (n:t≠f):iX K H' t a ns:=by
 obtain ⟨q,h2⟩:=T
 exact ⟨q,b t _ n h2⟩
theorem gH (ns:List Int):dZ (.list (ns.map .int))=true:=by
 unfold dZ
 induction ns with
 | nil=>unfold List.map iR; rfl
 | cons n r ih=>rw [Jk]; unfold iR; rw [ih]; unfold dZ; rfl
theorem oA (f:α->PyData) (h:∀ x,(f x).canLay0=true):∀ l:List α,PyData.canLayAll0 (l.map f)=true
 | []=>by unfold List.map PyData.canLayAll0; rfl
 | x::r=>by rw [Jk]; unfold PyData.canLayAll0; rw [h x,oA f h r]; rfl
theorem qH {k:Nat} (f:α->PyData) (h:∀ x,(f x).depth<=k):∀ l:List α,PyData.depthAll (l.map f)<=k
 | []=>by unfold List.map PyData.depthAll; exact Jj _
 | x::r=>by rw [Jk]; unfold PyData.depthAll; exact Nat.max_le.mpr ⟨h x,qH f h r⟩
theorem oB (i:Int):(PyData.int i).canLay0=true:=by unfold PyData.canLay0; rfl
theorem qI (i:Int):(PyData.int i).depth<=0:=by unfold PyData.depth; exact Qg _
theorem wS (ns:List Int):(PyData.list (ns.map .int)).canLay0=true:=by unfold PyData.canLay0; exact oA _ oB ns
theorem wT (ns:List Int):(PyData.tuple (ns.map .int)).canLay0=true:=by unfold PyData.canLay0; exact oA _ oB ns
theorem zC (ns:List Int):(PyData.list (ns.map .int)).depth<=1:=by unfold PyData.depth; exact Zx (qH _ qI ns)
theorem zD (ns:List Int):(PyData.tuple (ns.map .int)).depth<=1:=by unfold PyData.depth; exact Zx (qH _ qI ns)
theorem qJ {d:PyData} (h1:d.canLay0=true) (h2:d.depth<=64):SeqAt.shaped d=true:=by
 unfold SeqAt.shaped
 rw [h1,decide_eq_true h2]
 rfl
theorem hV (ns:List Int):SeqAt.shaped (.list (ns.map .int))=true:=qJ (wS ns) (Qu (zC ns) (by decide))
theorem wU (ns:List Int):SeqAt.shaped (.tuple (ns.map .int))=true:=qJ (wT ns) (Qu (zD ns) (by decide))
theorem wV (ns:List Int):dZ (.tuple (ns.map .int))=true:=by
 have h:=gH ns
 unfold dZ at h ⊢
 exact h
theorem _root_.L2.Room.u64 {k:Nat} (r:Room k A):A.units+64 < cLine:=by have:=r.un; omega
def aDa (K:PySem.W.Frag):Sp:=fun vs H Q _=>∃ (a:Addr) (ns:List Int) (k:Nat),vs = [.ref a,.int k]/\SqL K H a (ns.map V.int)/\∀ r,Q (.int r) H
theorem aF1:FnScope ["script", "k"] ["script", "k"] (aI aA1):=⟨rfl,rfl,rfl,by decide +kernel,rfl,by decide +kernel,by decide +kernel⟩
theorem aEt (G:Fn K mg "_law_acell" aA1 ["script", "k"] f fd) (B:Bl mg):FnOk P w K mg base CX0 1 f fd ["script", "k"] (aDa K):=by
 refine G.fn.ok aF1 (fun vs H Q E h=>?_) (fun cdv A outer s H vs Q E hr h=>?_)
 ·obtain ⟨a,ns,n,rfl,_⟩:=h
  rfl
 ·obtain ⟨a,ns,n,rfl,ha,k⟩:=h
  refine ⟨_,(aE (cX (bF aCw (pv 1) (aQ aV rfl B.len fJ (aA (pv 0) aC)) (bK _))
   (aJ (aR (aT eD (pv 0) (pv 1) (fun _ _=>rfl))))
   bM)
  (aJ (aR aG))),?_⟩
  refine ⟨_,rfl,_,rfl,a,_,rfl,.inl ha,_,_,rfl,rfl,_,rfl,?_⟩
  rw [Qb]
  refine gD (fun c=>?_) (fun c=>?_)
  ·have hlt:n < ns.length:=by have:=of_decide_eq_true c; omega
   exact ⟨_,rfl,_,rfl,a,_,n,.int ns[n],rfl,rfl,ha,bX (by rw [Qh,Qc hlt]; rfl),k _⟩
  ·exact k _
def aDb (K:PySem.W.Frag):Sp:=fun vs H Q _=>∃ (a:Addr) (ns:List Int) (k:Nat),vs = [.ref a,.int k]/\SqL K H a (ns.map V.int)/\∀ t q,H t=none->Q (.ref t) (upd H t (.lst [.int q]))
theorem mO:FnScope ["script", "k", "cell", "p", "number", "last", "turn"] ["script", "k"] (aI aA2):=⟨rfl,rfl,rfl,by decide +kernel,rfl,by decide +kernel,by decide +kernel⟩
theorem aEu {fC:Addr} {dC:FuncData} (G:Fn K mg "_law_atape" aA2 ["script", "k"] f fd) (B:Bl mg) (GC:Fn K mg "_law_acell" aA1 ["script", "k"] fC dC):FnOk P w K mg base CX0 2 f fd ["script", "k"] (aDb K):=by
 have OC:FnOk P w K mg base CX0 1 fC dC ["script", "k"] (aDa K):=aEt GC B
 refine G.fn.ok mO (fun vs H Q E h=>?_) (fun cdv A outer s H vs Q E hr h=>?_)
 ·obtain ⟨a,ns,n,rfl,_⟩:=h
  rfl
 ·obtain ⟨a,ns,n,rfl,ha,k⟩:=h
  have r1:Room 1 _:=hr
  refine ⟨_,(aE (aS (i:=2) mO.nd rfl (Or.inl rfl) (bD GC OC r1 rfl (aA (pv 0) (aA (pv 1) aC))))
  (aE (cX (bF xV (aU nU (pv 2) aG) aG (bK _))
   (aJ (aR (cI (aA (aU aD1 (pv 2) aG) aC))))
   bM)
  (aE (aS (i:=3) mO.nd rfl (Or.inl rfl) aG)
  (aE (aS (i:=4) mO.nd rfl (Or.inl rfl) aG)
  (aE (aS (i:=5) mO.nd rfl (Or.inl rfl) (aU nU (aU eJ (aU eJ (aU rZ (aU nU (pv 2) (pv 3)) aG) (aU rZ aG (pv 1))) aG) (pv 3)))
  (aE (cU PassesOwn.never rfl (cT rfl B.range (aA aG aC)) (aM (i:=6) mO.nd rfl (Or.inl rfl))
   (aE (aS (i:=4) mO.nd rfl (Or.inl rfl) (aU eJ (aU rZ (pv 4) (pv 3)) (pv 5)))
  (aJ (aS (i:=5) mO.nd rfl (Or.inl rfl) (aU nU (aU eJ (aU eJ (aU rZ (pv 5) (pv 5)) (aU rZ aG (pv 1))) (pv 6)) (pv 3))))))
  (aJ (aR (cI (aA (pv 4) aC)))))))))),?_⟩
  refine ⟨_,rfl,_,rfl,a,ns,n,rfl,ha,fun c=>?_⟩
  refine ⟨_,rfl,_,_,rfl,rfl,(show (0:Int) < _ by decide),rfl,_,rfl,?_⟩
  refine gD (fun c1=>?_) (fun c1=>?_)
  ·exact ⟨_,rfl,_,_,rfl,rfl,⟨by decide,by decide⟩,sz1 _,fun t ht=>k t _ ht⟩
  ·refine ⟨_,rfl,_,rfl,_,_,rfl,rfl,(show (0:Int) < _ by decide),_,_,rfl,rfl,.inr ⟨by decide,by decide⟩,_,rfl,_,_,rfl,rfl,.inl ⟨by decide,by decide⟩,_,_,rfl,rfl,_,_,rfl,rfl,_,rfl,_,_,rfl,rfl,(show (0:Int) < _ by decide),?_⟩
   have b0:0<=((c % 2305843009213693951*48271+69621*(n:Int)+11) % 2305843009213693951:Int)/\((c % 2305843009213693951*48271+69621*(n:Int)+11) % 2305843009213693951:Int) < 2305843009213693951:=⟨Yc _ (by decide),Zm _ (by decide)⟩
   refine ⟨18,rfl,by decide,by decide,jK (lo:=0) (n:=18) (fun i σ H2=>(∃ nu la v6,σ = [some (.ref a),some (.int n),some (.int c),some (.int 2305843009213693951),some (.int nu),some (.int la),v6]/\0<=la/\la < 2305843009213693951)/\H2=H) ⟨⟨0,_,none,rfl,b0.1,b0.2⟩,rfl⟩ ?_ ?_⟩
   ·rintro i σ H2 hi ⟨⟨nu,la,v6,rfl,h0,h1⟩,rfl⟩
    refine ⟨_,rfl,_,rfl,_,_,rfl,rfl,.inr ⟨by decide,by decide⟩,_,rfl,_,_,rfl,rfl,?_⟩
    refine ⟨_,rfl,_,rfl,_,_,rfl,rfl,.inl ⟨by omega,by omega⟩,_,rfl,_,_,rfl,rfl,.inl ⟨by decide,by decide⟩,_,_,rfl,rfl,_,rfl,_,_,rfl,rfl,_,rfl,_,_,rfl,rfl,(show (0:Int) < _ by decide),?_⟩
    exact ⟨⟨_,_,_,rfl,Yc _ (by decide),Zm _ (by decide)⟩,rfl⟩
   ·rintro σ H2 ⟨⟨nu,la,v6,rfl,h0,h1⟩,rfl⟩
    exact ⟨_,rfl,sz1 _,fun t ht=>k t _ ht⟩
def rO (K:PySem.W.Frag):Sp:=fun vs H Q _=>∃ (t a:Addr) (ns:List Int) (m:Int),vs = [.ref t,.int m]/\iX K H t a ns/\0 < m/\m < 1267650600228229401496703205376/\∀ r H',0<=r->r < m->But t H H'->iX K H' t a ns->Q (.int r) H'
theorem zE:FnScope ["tape", "many", "found"] ["tape", "many"] (aI oV):=⟨rfl,rfl,rfl,by decide +kernel,rfl,by decide +kernel,by decide +kernel⟩
theorem aDc (G:Fn K mg "_law_adigit" oV ["tape", "many"] f fd) (B:Bl mg):FnOk P w K mg base CX0 1 f fd ["tape", "many"] (rO K):=by
 refine G.fn.ok zE (fun vs H Q E h=>?_) (fun cdv A outer s H vs Q E hr h=>?_)
 ·obtain ⟨t,a,ns,m,rfl,_⟩:=h
  rfl
 ·obtain ⟨t,a,ns,m,rfl,⟨q,ht⟩,hm1,hm2,k⟩:=h
  refine ⟨_,(aE (aS (i:=2) zE.nd rfl (Or.inl rfl) (aU nU (aT eD (pv 0) aG (fun _ _=>rfl)) (pv 1)))
  (aE (lD (aU aCI (aT eD (pv 0) aG (fun _ _=>rfl)) (pv 1)) (rY (pv 0) aG kK))
  (aJ (aR (pv 2))))),?_⟩
  refine ⟨_,rfl,t,_,0,.int q,rfl,rfl,SqL.of ht,rfl,_,rfl,_,_,rfl,rfl,hm1,?_⟩
  refine ⟨_,rfl,t,_,0,.int q,rfl,rfl,SqL.of ht,rfl,_,rfl,_,_,rfl,rfl,⟨hm1,hm2⟩,_,rfl,t,_,0,0,rfl,rfl,ht,rfl,?_⟩
  exact ⟨_,rfl,k _ _ (Yc _ (by omega)) (Zm _ hm1) But.at ⟨_,aB⟩⟩
theorem zF (n:Int):∀ (l:List Int) (last:Int),(∀ x∈l,last < x)->l.Pairwise (· < ·)->(∀ x∈l,x < n)->fZ n last (l.map .int)=true
 | [],_,_,_,_=>rfl
 | x::r,last,h1,h2,h3=>by
  rw [Jk,jB]
  have h2':=Yt.mp h2
  rw [decide_eq_true (h1 x (Qn ..)),decide_eq_true (h3 x (Qn ..)),zF n r x h2'.1 h2'.2 (fun y hy=>h3 y (Qs _ hy))]
  rfl
theorem aA9 {n:Int} (h0:l≠[]) (h1:∀ x∈l,0<=x/\x < n) (h2:l.Pairwise (· < ·)):eC n (eV l)=true:=by
 have e:eC n (eV l)=(!(l.map PyData.int).isEmpty && fZ n (-1) (l.map .int)):=rfl
 rw [e,zF n l (-1) (fun x hx=>by have:=(h1 x hx).1; omega) h2 (fun x hx=>(h1 x hx).2)]
 cases l with
 | nil=>exact absurd rfl h0
 | cons _ _=>rfl
theorem qZ (n:Int):∀ (l:List Int) (last:Int),fZ n last (l.map .int)=true->l.Pairwise (· < ·)/\∀ x∈l,last < x/\x < n
 | [],_,_=>⟨.nil,fun _ h=>by cases h⟩
 | x::r,last,h=>by
  rw [Jk,jB,Jb,Jb] at h
  obtain ⟨⟨h1,h2⟩,h3⟩:=h
  have h1:=of_decide_eq_true h1
  have h2:=of_decide_eq_true h2
  obtain ⟨i1,i2⟩:=qZ n r x h3
  refine ⟨Yt.mpr ⟨fun y hy=>(i2 y hy).1,i1⟩,fun y hy=>?_⟩
  rcases Qj.mp hy with rfl | hy
  ·exact ⟨h1,h2⟩
  ·exact ⟨by have:=(i2 y hy).1; omega,(i2 y hy).2⟩
theorem hJ {n:Int} (h:eC n (eV l)=true):l≠[]/\(∀ x∈l,0<=x/\x < n)/\l.Pairwise (· < ·):=by
 have e:(!(l.map PyData.int).isEmpty && fZ n (-1) (l.map .int))=true:=h
 rw [Jb] at e
 obtain ⟨h1,h2⟩:=qZ n l (-1) e.2
 refine ⟨fun z=>by rw [z] at e; simp at e,fun x hx=>⟨by have:=(h2 x hx).1; omega,(h2 x hx).2⟩,h1⟩
theorem tJ {n:Int}:∀ (l:List Int) (lo:Int),lo<=n->(∀ x∈l,lo<=x/\x < n)->l.Pairwise (· < ·)->(l.length:Int)<=n - lo
 | [],lo,h,_,_=>by simp; omega
 | x::r,lo,h,h1,h2=>by
  have h2':=Yt.mp h2
  have hx:=h1 x (Qn ..)
  have:=tJ r (x+1) (by omega) (fun y hy=>⟨by have:=h2'.1 y hy; omega,(h1 y (Qs _ hy)).2⟩) h2'.2
  rw [Jn]
  omega
theorem hU {n:Int} (hn:0<=n) (h1:∀ x∈l,0<=x/\x < n) (h2:l.Pairwise (· < ·)):(l.length:Int)<=n:=by
 have:=tJ l 0 hn h1 h2
 omega
theorem iD {x:Int}:x∈bN n↔0<=x/\x < n:=by
 unfold bN
 rw [Qz]
 constructor
 ·rintro ⟨i,hi,rfl⟩
  have:=Js.mp hi
  show 0<=(i:Int)/\(i:Int) < n
  omega
 ·rintro ⟨h1,h2⟩
  exact ⟨x.toNat,Js.mpr (by omega),by show ((x.toNat:Nat):Int)=x; omega⟩
theorem mP:∀ (a b:List Int),PyData.eqvAll (a.map .int) (b.map .int)=decide (a=b)
 | [],[]=>by simp [PyData.eqvAll]
 | [],_::_=>by simp [PyData.eqvAll]
 | _::_,[]=>by simp [PyData.eqvAll]
 | x::r,y::s=>by
  rw [Jk,Jk,PyData.eqvAll,mP r s,PyData.eqv]
  by_cases h:x=y
  ·by_cases h2:r=s
   ·simp [h,h2]
   ·simp [h,h2]
  ·simp [h]
theorem aBW (a b:List Int):PyData.eqv (.list (a.map .int)) (.list (b.map .int))=decide (a=b):=by rw [PyData.eqv,mP]
theorem aBX (a b:List Int):PyData.eqv (.tuple (a.map .int)) (.tuple (b.map .int))=decide (a=b):=by rw [PyData.eqv,mP]
theorem aEv {n:Int} (h1:1<=n) (h2:n<=6) (h3:ws.length<=12) (h4:∀ l∈ws,eC n (eV l)=true):eK (eM n ws)=true:=by
 show (decide (1<=n) && decide (n<=6) && decide ((ws.map eV).length<=12) && (ws.map eV).all (eC n))=true
 rw [decide_eq_true h1,decide_eq_true h2,Qb,decide_eq_true h3,Jr,Jr,Jr,Qy]
 intro d hd
 obtain ⟨l,hl,rfl⟩:=Qz.mp hd
 exact h4 l hl
theorem vJ {n:Int} (h1:SqT K H a [.int n,.ref b]) (h2:SqT K H b ys) (h3:aN K H (ws.map eV) ys):Den K H (eM n ws) (.ref a) :=
 bB.mpr ⟨a,_,rfl,h1,aH.mpr ⟨_,_,rfl,bP.mpr rfl,aH.mpr ⟨_,_,rfl,bB.mpr ⟨b,ys,rfl,h2,h3⟩,aL.mpr rfl⟩⟩⟩
def aBa (K:PySem.W.Frag):Sp:=fun vs H Q _=>∃ (t a:Addr) (ns:List Int) (hm wm:Int),vs = [.ref t,.int hm,.int wm]/\iX K H t a ns/\1<=hm/\hm<=6/\0<=wm/\wm<=12/\∀ n ws p H',eK (eM n ws)=true->n<=hm->(ws.length:Int)<=wm->But t H H'->iX K H' t a ns->Den K H' (eM n ws) (.ref p)->Q (.ref p) H'
theorem lM:FnScope ["tape", "hands", "works", "n", "often", "found", "k", "able"] ["tape", "hands", "works"] (aI tH):=⟨rfl,rfl,rfl,by decide +kernel,rfl,by decide +kernel,by decide +kernel⟩
theorem aDd {fD:Addr} {fdD:FuncData} (G:Fn K mg "_law_abook" tH ["tape", "hands", "works"] f fd) (B:Bl mg) (GD:Fn K mg "_law_adigit" oV ["tape", "many"] fD fdD) (OD:FnOk P w K mg base CX0 1 fD fdD ["tape", "many"] (rO K)):FnOk P w K mg base CX0 2 f fd ["tape", "hands", "works"] (aBa K):=by
 refine G.fn.ok lM (fun vs H Q E h=>?_) (fun cdv A outer s H vs Q E hr h=>?_)
 ·obtain ⟨t,a,ns,hm,wm,rfl,_⟩:=h
  rfl
 ·obtain ⟨t,a,ns,hm,wm,rfl,hT,hh1,hh6,hw0,hw12,k⟩:=h
  have r1:Room 1 _:=hr
  refine ⟨_,(aE (aS (i:=3) lM.nd rfl (Or.inl rfl) (aU eJ aG (bD GD OD r1 rfl (aA (pv 0) (aA (pv 1) aC)))))
  (aE (aS (i:=4) lM.nd rfl (Or.inr rfl) (aU eJ aG (bD GD OD r1 rfl (aA (pv 0) (aA aG aC)))))
  (aE (aS (i:=5) lM.nd rfl (Or.inl rfl) (cI aC))
  (aE (cU PassesOwn.never rfl (cT rfl B.range (aA (bD GD OD r1 rfl (aA (pv 0) (aA (aU eJ (pv 2) aG) aC))) aC)) (aM (i:=6) lM.nd rfl (Or.inl rfl))
   (aE (eX (i:=7) (own:=["hand"]) (fr:=[4,0]) (frn:=["often", "tape"]) (aW (aI tH) ["tape", "hands", "works", "n", "often", "found", "k", "able"] rfl rfl (by decide +kernel)) rfl lM.nd rfl rfl rfl (cT rfl B.range (aA (pv 3) aC))
    (fun _ _ _ _=>(aM (i:=0) (show (["hand", "often", "tape"]:List Str).Nodup by decide +kernel) rfl (Or.inl rfl))) (fun _ _ _ _=>lG (bF aCw (bD GD OD r1 rfl (aA (pv 2) (aA aG aC))) (pv 1) (bK _)))
    (fun _ _ _ _=>(pv 0)))
  (aE (cX (bF (aCE hr.u64) (pv 7) (cI aC) (bK _))
   (aJ (aS (i:=7) lM.nd rfl (Or.inl rfl) (cI (aA (bD GD OD r1 rfl (aA (pv 0) (aA (pv 3) aC))) aC))))
   bM)
  (aJ (gM (kL PySem.F.plainAttrs_list PySem.F.slot_list_append PySem.F.type_list_append fY (pv 5) (aA (cE fX rfl B.tuple dY (aA (pv 7) aC)) aC)))))))
  (aJ (aR (bG (aA (pv 3) (aA (cE fX rfl B.tuple dY (aA (pv 5) aC)) aC))))))))),?_⟩
  refine ⟨_,rfl,_,rfl,t,a,ns,hm,rfl,hT,by omega,by omega,fun r H1 hr0 hr1 b1 T1=>⟨_,_,rfl,rfl,?_⟩⟩
  refine ⟨_,rfl,t,a,ns,4,rfl,T1,by decide,by decide,fun kd H2 hk0 hk1 b2 T2=>⟨_,_,rfl,rfl,?_⟩⟩
  refine ⟨cA (Jj _),fun fl hfl=>?_⟩
  have ntf:t≠fl:=fun z=>T2.ne hfl z.symm
  have s3:=aD.new (o:=.lst []) hfl
  have hfl0:H fl=none:=(b1.trans b2).free hfl (Ne.symm ntf)
  have T3:=T2.same s3
  have b03:=b1.trans (b2.trans (But.of s3))
  have hfl3:upd H2 fl (.lst []) fl=some (.lst []):=aB
  generalize hH3:upd H2 fl (.lst [])=H3 at T3 b03 hfl3 ⊢
  refine ⟨_,rfl,_,rfl,_,_,rfl,rfl,t,a,ns,wm+1,rfl,T3,by omega,by omega,fun m H4 hm0 hm1 b4 T4=>?_⟩
  refine ⟨m,rfl,by omega,by omega,jK (lo:=0) (n:=m.toNat) (fun i σ H5=>∃ (ws:List (List Int)) (xs:List V) (v v2:Option V),σ = [some (.ref t),some (.int hm),some (.int wm),some (.int (1+r)),some (.int (1+kd)),some (.ref fl),v,v2]/\ws.length=i /\
   (∀ l∈ws,eC (1+r) (eV l)=true)/\H5 fl=some (.lst xs)/\aN K H5 (ws.map eV) xs/\But t H H5/\iX K H5 t a ns)
   ⟨[],[],none,none,rfl,rfl,fun _ h=>(Qq h).elim,b4 fl _ (Ne.symm ntf) hfl3,aL.mpr rfl,b03.trans b4,T4⟩ ?_ ?_⟩
  ·rintro i σ H5 hi ⟨ws,xs,v,v2,rfl,hl,hw,hx,hd,b5,T5⟩
   have hxl:xs.length=i:=by rw [aF hd,Qb,hl]
   have next:∀ (l:List Int) (p:Addr) (H7:Hp),eC (1+r) (eV l)=true->But t H5 H7->iX K H7 t a ns->SqT K H7 p (l.map V.int) ->
     ∃ xs',H7 fl=some (.lst xs)/\xs'=xs++[.ref p]/\(∀ l2∈ws++[l],eC (1+r) (eV l2)=true)/\aN K (upd H7 fl (.lst xs')) ((ws++[l]).map eV) xs'/\But t H (upd H7 fl (.lst xs'))/\iX K (upd H7 fl (.lst xs')) t a ns:=by
    intro l p H7 hwk b7 T7 hp7
    have hx7:H7 fl=some (.lst xs):=b7 fl _ (Ne.symm ntf) hx
    have hd7:=T5.denAll b7 (gG _ iW ws) hd
    have b8:But fl H7 (upd H7 fl (.lst (xs++[.ref p]))):=But.at
    refine ⟨_,hx7,rfl,fun l2 hl2=>?_,?_,fun b o nb hb=>?_,T7.wr b8 ntf⟩
    ·rcases Jg.mp hl2 with h | h
     ·exact hw l2 h
     ·rw [Qi.mp h]; exact hwk
    ·rw [Qr]
     exact aZ (b8.denAll hx7 _ _ (gG _ iW ws) hd7) (aH.mpr ⟨_,_,rfl,bV.mpr ⟨p,rfl,b8.seqT hx7 hp7⟩,aL.mpr rfl⟩)
    ·rw [aK (fun z=>by rw [z,hfl0] at hb; cases hb)]
     exact (b5.trans b7) b o nb hb
   refine ⟨_,rfl,1+r,rfl,by omega,by omega,eY (lo:=0) (n:=(1+r).toNat) (fun σ=>∃ v,σ = [v,some (.int (1+kd)),some (.ref t)]) (fun j ys H6=>∃ l:List Int,ys=l.map V.int/\l.Pairwise (· < ·)/\(∀ x∈l,0<=x/\x < j)/\But t H5 H6/\iX K H6 t a ns) (cA (by omega)) ⟨none,rfl⟩
    ⟨[],rfl,.nil,fun _ h=>(Qq h).elim,But.refl t H5,T5⟩ ?_ ?_ ?_⟩
   ·rintro j ys H6 ⟨l,rfl,h1,h2,_⟩
    rw [Qb]
    have:=hU (n:=(j:Int)) (by omega) h2 h1
    omega
   ·rintro j ys σ H6 hj ⟨v,rfl⟩ ⟨l,rfl,h1,h2,b6,T6⟩ hz
    refine ⟨_,rfl,t,a,ns,5,rfl,T6,by decide,by decide,fun r7 H7 _ _ b7 T7=>⟨_,rfl,_,_,rfl,rfl,_,rfl,?_⟩⟩
    refine gD (fun c=>?_) (fun c=>?_)
    ·refine ⟨_,rfl,hz,⟨_,rfl⟩,l++[(j:Int)],by simp,List.pairwise_append.mpr ⟨h1,by simp,fun x hx y hy=>?_⟩,fun x hx=>?_,b6.trans b7,T7⟩
     ·rw [Qi.mp hy]; exact (h2 x hx).2
     ·rcases Jg.mp hx with hx | hx
      ·have:=h2 x hx; omega
      ·rw [Qi.mp hx]; omega
    ·refine ⟨⟨_,rfl⟩,l,rfl,h1,fun x hx=>?_,b6.trans b7,T7⟩
     have:=h2 x hx; omega
   ·rintro ys H6 ⟨l,rfl,h1,h2,b6,T6⟩ ap hap
    have hapt:ap≠t:=T6.ne hap
    have s7:=aD.new (o:=.lst (l.map V.int)) hap
    have e7:upd H6 ap (.lst (l.map V.int)) ap=some (.lst (l.map V.int)):=aB
    have b7:=b6.trans (But.of (t:=t) s7)
    have T7:=T6.same s7
    generalize upd H6 ap (.lst (l.map V.int))=H7 at s7 e7 b7 T7 ⊢
    refine ⟨_,rfl,cA (Jj _),fun z hz=>?_⟩
    have s8:=aD.new (o:=.lst []) hz
    refine ⟨.list (l.map .int),.list (([]:List Int).map .int),vD.mpr ⟨ap,rfl,s8.seqL (SqL.of e7)⟩,vD.mpr ⟨z,rfl,SqL.of aB⟩,gH _,gH _,hV _,hV _,_,rfl,?_⟩
    rw [aBW]
    have e8:=s8 _ _ e7
    have b8:=b7.trans (But.of (t:=t) s8)
    have T8:=T7.same s8
    generalize upd H7 z (.lst [])=H8 at e8 b8 T8 ⊢
    by_cases hln:l = []
    ·rw [decide_eq_true hln]
     refine hZ ?_
     refine ⟨_,rfl,_,rfl,t,a,ns,1+r,rfl,T8,by omega,by omega,fun r9 H9 h90 h91 b9 T9=>⟨sz1 _,fun l9 hl9=>?_⟩⟩
     have s10:=aD.new (o:=.lst [.int r9]) hl9
     have b10:=b8.trans (b9.trans (But.of s10))
     have T10:=T9.same s10
     have e10:upd H9 l9 (.lst [.int r9]) l9=some (.lst [.int r9]):=aB
     generalize upd H9 l9 (.lst [.int r9])=H10 at b10 T10 e10 ⊢
     have hx10:=b10 fl _ (Ne.symm ntf) hx
     refine ⟨_,rfl,.inl ⟨rfl,_,SqL.of hx10⟩,_,rfl,l9,_,rfl,.inl ⟨SqL.of e10,fun q hq=>?_⟩⟩
     have s11:=aD.new (o:=.tup [.int r9]) hq
     obtain ⟨xs',n1,n2,n3,n4,n5,n6⟩:=next [r9] q _ (aA9 (by simp) (fun y hy=>by rw [Qi.mp hy]; omega) (by simp)) (b10.trans (But.of s11)) (T10.same s11) (SqT.of aB)
     subst n2
     exact ⟨fl,xs,.ref q,rfl,rfl,n1,by rw [sizeLine_eq]; omega,ws++[[r9]],_,_,_,rfl,by rw [Qt,hl]; rfl,n3,aB,n4,n5,n6⟩
    ·rw [decide_eq_false hln]
     refine gR ?_
     have hx8:=b8 fl _ (Ne.symm ntf) hx
     refine ⟨_,rfl,.inl ⟨rfl,_,SqL.of hx8⟩,_,rfl,ap,_,rfl,.inl ⟨SqL.of e8,fun q hq=>?_⟩⟩
     have s11:=aD.new (o:=.tup (l.map V.int)) hq
     obtain ⟨xs',n1,n2,n3,n4,n5,n6⟩:=next l q _ (aA9 hln (fun y hy=>by have:=h2 y hy; omega) h1) (b8.trans (But.of s11)) (T8.same s11) (SqT.of aB)
     subst n2
     exact ⟨fl,xs,.ref q,rfl,rfl,n1,by rw [sizeLine_eq]; omega,ws++[l],_,_,_,rfl,by rw [Qt,hl]; rfl,n3,aB,n4,n5,n6⟩
  ·rintro σ H5 ⟨ws,xs,v,v2,rfl,hl,hw,hx,hd,b5,T5⟩
   refine ⟨_,rfl,_,rfl,fl,_,rfl,.inl ⟨SqL.of hx,fun q hq=>⟨sz2 _ _,fun p hp=>?_⟩⟩⟩
   have sm:=(aD.new (o:=.tup xs) hq).trans (aD.new (o:=.tup [.int (1+r),.ref q]) hp)
   refine k (1+r) ws p _ (aEv (by omega) (by omega) (by omega) hw) (by omega) (by omega) (b5.trans (But.of sm)) (T5.same sm) ?_
   refine vJ (SqT.of aB) ((aD.new hp).seqT (SqT.of aB)) (sm.denAll _ _ hd)
def lN (s l:List Int):Bool:=l.all fun h=>decide (h∈s)
def fQ (hs:List Int):List (List Int):=hs.foldl (fun acc h=>acc++acc.map (·++[h])) [[]]
def iY (hs:List Int):List (List Int):=(fQ hs).tail
theorem kF (hs:List Int) (x:Int):fQ (hs++[x])=fQ hs++(fQ hs).map (·++[x]):=by
 unfold fQ
 rw [List.foldl_append]
 rfl
theorem jT {p:List Int->Prop} (h0:p []) (h1:∀ l x,p l->p (l++[x])):∀ l,p l:=by
 intro l
 have:∀ r:List Int,p r.reverse:=by
  intro r
  induction r with
  | nil=>exact h0
  | cons x r ih=>rw [Zr]; exact h1 _ _ ih
 have h:=this l.reverse
 rwa [List.reverse_reverse] at h
theorem gU:∀ hs:List Int,fQ hs = []::iY hs:=by
 refine jT rfl fun l x ih=>?_
 unfold iY
 rw [kF,ih]
 rfl
theorem iM (hs:List Int) (x:Int):iY (hs++[x])=iY hs++[x]::(iY hs).map (·++[x]):=by
 have h:=kF hs x
 rw [gU (hs++[x]),gU hs] at h
 rw [Jk,List.cons_append] at h
 injection h
theorem aBY:∀ hs:List Int,∀ h∈hs,[h]∈iY hs:=by
 refine jT (fun h hh=>by cases hh) fun l x ih h hh=>?_
 rw [iM]
 rcases Jg.mp hh with hh | hh
 ·exact Ju _ (ih h hh)
 ·rw [Qi.mp hh]
  exact Qp _ (Qn ..)
theorem aBZ:∀ hs:List Int,(iY hs).length+1=2^hs.length:=by
 refine jT rfl fun l x ih=>?_
 rw [iM,Qt,Jn,Qb,Qt,Jw,Nat.pow_succ,<- ih]
 omega
theorem rA:∀ hs:List Int,∀ s∈iY hs,s.length<=hs.length:=by
 refine jT (fun s hs=>by cases hs) fun l x ih s hs=>?_
 rw [iM] at hs
 rw [Qt,Jw]
 rcases Jg.mp hs with hs | hs
 ·have:=ih s hs; omega
 ·rcases Qj.mp hs with rfl | hs
  ·simp
  ·obtain ⟨s',h1,rfl⟩:=Qz.mp hs
   have:=ih s' h1
   rw [Qt,Jw]
   omega
def mQ (a b:Int):Int:=a / (Int.gcd a b:Int)
def nN (a b:Int):Int:=b / (Int.gcd a b:Int)
theorem nE {a b:Int} (hb:0 < b):0 < (Int.gcd a b:Int):=by
 have:=Int.gcd_pos_of_ne_zero_right a (show b≠0 by omega)
 omega
theorem lO:∀ (a b:List Int),aO (a++b)=aO a+aO b
 | [],b=>by show aO b=0+aO b; omega
 | x::a,b=>by
  show x+aO (a++b)=x+aO a+aO b
  rw [lO a b]; omega
theorem mR {f g:α->Int}:∀ {l:List α},(∀ x∈l,f x<=g x)->aO (l.map f)<=aO (l.map g)
 | [],_=>Xb _
 | x::l,h=>by
  show f x+aO (l.map f)<=g x+aO (l.map g)
  have h1:=h x (Qn ..)
  have h2:=mR (l:=l) fun y hy=>h y (Qs _ hy)
  omega
theorem bQ {f g:α->Int} {l:List α} (h:∀ x∈l,f x=g x):aO (l.map f)=aO (l.map g):=by
 rw [Xz h]
theorem iN (f g:α->Int):∀ (l:List α),aO (l.map fun x=>f x+g x)=aO (l.map f)+aO (l.map g)
 | []=>rfl
 | x::l=>by
  show f x+g x+aO (l.map fun x=>f x+g x)=f x+aO (l.map f)+(g x+aO (l.map g))
  rw [iN f g l]; omega
theorem lP (c:Int) (f:α->Int):∀ (l:List α),aO (l.map fun x=>c*f x)=c*aO (l.map f)
 | []=>by show (0:Int)=c*0; omega
 | x::l=>by
  show c*f x+aO (l.map fun x=>c*f x)=c*(f x+aO (l.map f))
  rw [lP c f l,Wo]
theorem gI {f:α->Int}:∀ {l:List α},(∀ x∈l,f x=0)->aO (l.map f)=0
 | [],_=>rfl
 | x::l,h=>by
  show f x+aO (l.map f)=0
  rw [h x (Qn ..),gI fun y hy=>h y (Qs _ hy)]; rfl
theorem oZ {f:α->Int}:∀ {l:List α},(∀ x∈l,0<=f x)->0<=aO (l.map f)
 | [],_=>Xb _
 | x::l,h=>by
  show 0<=f x+aO (l.map f)
  have h1:=h x (Qn ..)
  have h2:=oZ (l:=l) fun y hy=>h y (Qs _ hy)
  omega
theorem kS {f:α->Int} {y:α}:∀ {l:List α},(∀ x∈l,0<=f x)->y∈l->f y<=aO (l.map f)
 | [],_,h=>by cases h
 | x::l,h,hy=>by
  show f y<=f x+aO (l.map f)
  have h1:=h x (Qn ..)
  have h2:=oZ (l:=l) fun y hy=>h y (Qs _ hy)
  rcases Qj.mp hy with rfl | hy
  ·omega
  ·have:=kS (l:=l) (fun y hy=>h y (Qs _ hy)) hy
   omega
theorem tK (f:α->β->Int):∀ (l:List α) (m:List β),aO (l.map fun x=>aO (m.map fun y=>f x y))=aO (m.map fun y=>aO (l.map fun x=>f x y))
 | [],m=>(gI fun _ _=>rfl).symm
 | x::l,m=>by
  show aO (m.map fun y=>f x y)+aO (l.map fun x=>aO (m.map fun y=>f x y))=aO (m.map fun y=>f x y+aO (l.map fun x=>f x y))
  rw [tK f l m,iN]
theorem pA (f:α->Int) (p:α->Bool):∀ l:List α,aO (l.map f)=aO ((l.filter p).map f)+aO ((l.filter fun x=>!p x).map f)
 | []=>rfl
 | x::l=>by
  rw [Qw,Qw]
  show f x+aO (l.map f)=_
  rw [pA f p l]
  cases p x
  ·show _=aO ((l.filter p).map f)+(f x+aO ((l.filter fun x=>!p x).map f)); omega
  ·show _=f x+aO ((l.filter p).map f)+aO ((l.filter fun x=>!p x).map f); omega
theorem wW (f:α->Int) (p:α->Bool):∀ l:List α,aO (l.map fun x=>if p x=true then f x else 0)=aO ((l.filter p).map f)
 | []=>rfl
 | x::l=>by
  rw [Qw]
  show (if p x=true then f x else 0)+aO (l.map fun x=>if p x=true then f x else 0)=_
  rw [wW f p l]
  cases p x
  ·show 0+_=_; simp
  ·show _=f x+aO ((l.filter p).map f); simp
theorem nF {f:α->Int} {c:Int}:∀ {l:List α},(∀ x∈l,f x=c)->aO (l.map f)=(l.length:Int)*c
 | [],_=>by show (0:Int)=0*c; omega
 | x::l,h=>by
  show f x+aO (l.map f)=((l.length+1:Nat):Int)*c
  rw [h x (Qn ..),nF fun y hy=>h y (Qs _ hy),Wh,Qaa]
  show c+_=_+1*c
  omega
theorem mT [DecidableEq α] (c:Int) (y:α):∀ {l:List α},l.Nodup->y∈l->aO (l.map fun x=>if x=y then c else 0)=c
 | [],_,h=>by cases h
 | x::l,nd,h=>by
  show (if x=y then c else 0)+aO (l.map fun x=>if x=y then c else 0)=c
  have nd':=Xr.mp nd
  rcases Qj.mp h with e | h
  ·rw [if_pos e.symm,gI fun z hz=>if_neg (fun q=>nd'.1 (by rw [<- e,<- q]; exact hz))]; omega
  ·rw [if_neg (fun q=>nd'.1 (by rw [q]; exact h)),mT c y nd'.2 h]; omega
def inS (s:List Int) (h:Int):Bool:=decide (h∈s)
theorem iE {s:List Int} {h:Int}:inS s h=true↔h∈s:=decide_eq_true_iff
abbrev cW:=List (List Int×Int)
end Ab
variable {rows:cW}
namespace Ab
open PySem L2
def wIn (rows:cW) (p:Int->Bool):Int:=aO (rows.map fun r=>if r.1.all p=true then r.2 else 0)
def mU (left:List Int) (p:Int->Bool):Int:=((left.filter p).length:Int)
def gO (left:List Int) (rows:cW):Prop:=∀ r∈rows,r.1≠[]/\(∀ h∈r.1,h∈left)/\0<=r.2
def aDe (left:List Int) (rows:cW) (s:List Int) (m:Int):Prop :=
 s≠[]/\s=left.filter (inS s)/\m=wIn rows (inS s)/\∀ p,wIn rows p*s.length<=m*mU left p/\(wIn rows p*s.length=m*mU left p->mU left p<=s.length)
def redu (rows:cW) (s:List Int):cW:=(rows.filter fun r=>!(r.1.all (inS s))).map fun r=>(r.1.filter fun h=>!inS s h,r.2)
def gW:List Int->cW->cW->Prop
 | left,_,[]=>left = []
 | left,rows,b::bs=>aDe left rows b.1 b.2/\gW (left.filter fun h=>!inS b.1 h) (redu rows b.1) bs
theorem gO.redu {s:List Int} (h:gO left rows):gO (left.filter fun h=>!inS s h) (redu rows s):=fun r hr=>by
 obtain ⟨r0,h0,rfl⟩:=Qz.mp hr
 obtain ⟨h1,h2⟩:=Jc.mp h0
 obtain ⟨a,b,c⟩:=h r0 h1
 refine ⟨fun z=>?_,fun x hx=>?_,c⟩
 ·have:r0.1.all (inS s)=true:=Qy.mpr fun x hx=>by
   cases q:inS s x with
   | true=>rfl
   | false=>exact absurd (show x∈r0.1.filter fun h=>!inS s h from Jc.mpr ⟨hx,by rw [q]; rfl⟩) (by rw [show (r0.1.filter fun h=>!inS s h) = [] from z]; exact Qq)
  rw [this] at h2; cases h2
 ·obtain ⟨x1,x2⟩:=Jc.mp hx
  exact Jc.mpr ⟨b x x1,x2⟩
theorem tL (r:List Int×Int) (rows:cW) (p:Int->Bool):wIn (r::rows) p=(if r.1.all p=true then r.2 else 0)+wIn rows p:=rfl
theorem aEw {r:List Int×Int} {s:List Int} (h:r.1.all (inS s)=true):redu (r::rows) s=redu rows s:=by
 unfold redu; rw [Qw,h]; rfl
theorem aDf {r:List Int×Int} {s:List Int} (h:r.1.all (inS s)=false):redu (r::rows) s=(r.1.filter fun h=>!inS s h,r.2)::redu rows s:=by
 unfold redu; rw [Qw,h]; rfl
theorem vK (s:List Int) (p:Int->Bool):∀ rows:cW,wIn rows (fun h=>inS s h || p h)=wIn rows (inS s)+wIn (redu rows s) p
 | []=>rfl
 | r::rows=>by
  rw [tL,tL,vK s p rows]
  cases q:r.1.all (inS s) with
  | true =>
   rw [aEw q,if_pos rfl,if_pos (Qy.mpr fun x hx=>by rw [Qy.mp q x hx]; rfl)]
   omega
  | false =>
   rw [aDf q,tL,if_neg (show ¬ (false=true) by decide)]
   have:r.1.all (fun h=>inS s h || p h)=(r.1.filter fun h=>!inS s h).all p:=by
    rw [List.all_filter]
    congr 1
    funext x
    cases inS s x <;> rfl
   rw [this]
   show _+_=_+((if (r.1.filter fun h=>!inS s h).all p=true then r.2 else 0)+_)
   omega
theorem vL {s:List Int} (h:s=left.filter (inS s)) (p:Int->Bool):mU left (fun h=>inS s h || p h)=s.length+mU (left.filter fun h=>!inS s h) p:=by
 have:∀ l:List Int,((l.filter fun h=>inS s h || p h).length:Int)=((l.filter (inS s)).length:Int)+(((l.filter fun h=>!inS s h).filter p).length:Int):=fun l=>by
  induction l with
  | nil=>rfl
  | cons x l ih =>
   rw [Qw,Qw,Qw]
   cases q:inS s x
   ·cases q2:p x
    ·simp only [Wa,Bool.not_false,if_true,Qw,q2,if_false,Xl]; exact ih
    ·simp only [Wa,Bool.not_false,if_true,Qw,q2,if_false,Xl,Jn]; omega
   ·simp only [Bool.true_or,Bool.not_true,if_true,if_false,Xl,Jn]; omega
 unfold mU
 rw [this left,<- h]
theorem aDg {s s2:List Int} {m m2:Int} (h1:aDe left rows s m) (h2:aDe (left.filter fun h=>!inS s h) (redu rows s) s2 m2):m2*s.length < m*s2.length:=by
 obtain ⟨_,a2,a3,a4⟩:=h1
 obtain ⟨b1,b2,b3,_⟩:=h2
 obtain ⟨c1,c2⟩:=a4 fun h=>inS s h || inS s2 h
 have e2:mU (left.filter fun h=>!inS s h) (inS s2)=s2.length:=by unfold mU; rw [<- b2]
 rw [vK,vL a2,<- a3,<- b3,e2] at c1 c2
 have hp:0 < s2.length:=Xd.mpr b1
 rw [Qaa,Wo] at c1 c2
 have:¬ (m2*s.length=m*s2.length):=fun z=>by
  have:=c2 (by rw [z])
  omega
 omega
theorem zG:∀ {bs:cW} {left:List Int} {rows:cW} {s:List Int} {m:Int},aDe left rows s m->gW (left.filter fun h=>!inS s h) (redu rows s) bs->∀ b∈bs,b.1≠[]/\b.2*s.length < m*b.1.length
 | [],_,_,_,_,_,_,b,hb=>by cases hb
 | c::bs,left,rows,s,m,h1,h2,b,hb=>by
  have hl:=aDg h1 h2.1
  rcases Qj.mp hb with rfl | hb
  ·exact ⟨h2.1.1,hl⟩
  ·obtain ⟨ih0,ih⟩:=zG h2.1 h2.2 b hb
   have p1:(0:Int) < c.1.length:=by have:=Xd.mpr h2.1.1; omega
   have p2:(0:Int) < b.1.length:=by have:=Xd.mpr ih0; omega
   have p3:(0:Int) < s.length:=by have:=Xd.mpr h1.1; omega
   refine ⟨ih0,Int.lt_of_mul_lt_mul_right (a:=(c.1.length:Int)) ?_ (Zp p1)⟩
   have t1:b.2*c.1.length*s.length < c.2*b.1.length*s.length:=Yo ih p3
   have t2:c.2*s.length*b.1.length < m*c.1.length*b.1.length:=Yo hl p2
   have e1:b.2*(s.length:Int)*c.1.length=b.2*c.1.length*s.length:=Za ..
   have e2:c.2*(b.1.length:Int)*s.length=c.2*s.length*b.1.length:=Za ..
   have e3:m*(b.1.length:Int)*c.1.length=m*c.1.length*b.1.length:=Za ..
   omega
def eZ:cW->Int->Int×Int
 | [],_=>(0,1)
 | b::bs,h=>if inS b.1 h=true then (b.2,(b.1.length:Int)) else eZ bs h
def iK (bs:cW) (h:Int):Int:=(eZ bs h).1*60 / (eZ bs h).2
theorem nG {b:List Int×Int} {bs:cW} {h:Int} (q:inS b.1 h=true):eZ (b::bs) h=(b.2,(b.1.length:Int)):=by show (if _ then _ else _)=_; rw [if_pos q]
theorem mV {b:List Int×Int} {bs:cW} {h:Int} (q:inS b.1 h=false):eZ (b::bs) h=eZ bs h:=by show (if _ then _ else _)=_; rw [if_neg (by rw [q]; decide)]
theorem aF2 (ok:gO left rows) (p:Int->Bool):0<=wIn rows p:=oZ fun r hr=>by
 have:=(ok r hr).2.2
 split
 ·exact this
 ·exact Xb _
theorem pB:∀ {bs:cW} {left:List Int} {rows:cW},gW left rows bs->∀ h∈left,∃ b∈bs,h∈b.1/\eZ bs h=(b.2,(b.1.length:Int))
 | [],left,rows,hb,h,hh=>by rw [show left = [] from hb] at hh; cases hh
 | b::bs,left,rows,hb,h,hh=>by
  cases q:inS b.1 h with
  | true=>exact ⟨b,Qn ..,iE.mp q,nG q⟩
  | false =>
   obtain ⟨c,c1,c2,c3⟩:=pB hb.2 h (Jc.mpr ⟨hh,by rw [q]; rfl⟩)
   exact ⟨c,Qs _ c1,c2,(mV q).trans c3⟩
theorem aFi {k:Nat} {m:Int} (h0:0 < k) (h6:k<=6):m*60 / (k:Int)*k=m*60:=by
 have:k=1∨k=2∨k=3∨k=4∨k=5∨k=6:=by omega
 rcases this with rfl | rfl | rfl | rfl | rfl | rfl <;> omega
theorem rP:∀ {bs:cW} {left:List Int} {rows:cW},gO left rows->gW left rows bs->∀ b∈bs,b.1≠[]/\b.1.length<=left.length/\0<=b.2/\∀ h∈b.1,h∈left
 | [],_,_,_,_,b,hb=>by cases hb
 | c::bs,left,rows,ok,h,b,hb=>by
  rcases Qj.mp hb with rfl | hb
  ·obtain ⟨a1,a2,a3,_⟩:=h.1
   refine ⟨a1,?_,by rw [a3]; exact aF2 ok _,fun x hx=>?_⟩
   ·rw [a2]; exact Jf _ _
   ·rw [a2] at hx; exact (Jc.mp hx).1
  ·obtain ⟨i1,i2,i3,i4⟩:=rP ok.redu h.2 b hb
   exact ⟨i1,Qu i2 (Jf _ _),i3,fun x hx=>(Jc.mp (i4 x hx)).1⟩
def tkr:cW->List Int->List Int
 | [],l=>l
 | b::bs,l=>if l.all (inS b.1)=true then l else tkr bs (l.filter fun h=>!inS b.1 h)
theorem zH (f:List Int×Int->Int) (s:List Int):∀ rows:cW,aO (rows.map f)=aO (rows.map fun r=>if r.1.all (inS s)=true then f r else 0)+aO ((rows.filter fun r=>!(r.1.all (inS s))).map f):=fun rows=>by
 rw [wW,<- pA]
theorem zI:∀ {bs:cW} {left:List Int} {rows:cW},gW left rows bs->gO left rows->left.length<=6->∀ R:Int->Bool,60*aO (rows.map fun r=>if (tkr bs r.1).all R=true then r.2 else 0)<=aO (left.map fun h=>if R h=true then iK bs h else 0)
 | [],left,rows,hb,ok,_,R=>by
  rw [show left = [] from hb] at ok ⊢
  have:rows = []:=by
   cases rows with
   | nil=>rfl
   | cons r _ =>
    obtain ⟨a,b,_⟩:=ok r (Qn ..)
    cases q:r.1 with
    | nil=>exact absurd q a
    | cons x _=>exact absurd (b x (by rw [q]; exact Qn ..)) Qq
  rw [this]
  exact Xb _
 | b::bs,left,rows,hb,ok,h6,R=>by
  have ih:=zI hb.2 ok.redu (Qu (Jf _ _) h6) R
  obtain ⟨a1,a2,a3,a4⟩:=hb.1
  have l6:b.1.length<=6:=by rw [a2]; exact Qu (Jf _ _) h6
  have l0:0 < b.1.length:=Xd.mpr a1
  have dv:=aFi (m:=b.2) l0 l6
  -- the works
  have e1:aO (rows.map fun r=>if (tkr (b::bs) r.1).all R=true then r.2 else 0)=wIn rows (fun h=>inS b.1 h && R h)+aO ((redu rows b.1).map fun r=>if (tkr bs r.1).all R=true then r.2 else 0):=by
   rw [zH _ b.1]
   congr 1
   ·unfold wIn
    refine bQ fun r _=>?_
    have:r.1.all (fun h=>inS b.1 h && R h)=(r.1.all (inS b.1) && r.1.all R):=by
     induction r.1 with
     | nil=>rfl
     | cons x l ih2=>rw [Ya,Ya,Ya,ih2]; cases inS b.1 x <;> cases R x <;> cases l.all (inS b.1) <;> rfl
    rw [this]
    cases q:r.1.all (inS b.1) with
    | true=>rw [if_pos rfl,show tkr (b::bs) r.1=r.1 by show (if _ then _ else _)=_; rw [if_pos q],Jr]
    | false=>rw [if_neg (by decide),Jz,if_neg (by decide)]
   ·unfold redu
    rw [Zb]
    refine bQ fun r hr=>?_
    have q:r.1.all (inS b.1)=false:=by
     have:=(Jc.mp hr).2
     cases z:r.1.all (inS b.1) with
     | true=>rw [z] at this; cases this
     | false=>rfl
    show _=if (tkr bs (r.1.filter fun h=>!inS b.1 h)).all R=true then r.2 else 0
    rw [show tkr (b::bs) r.1=tkr bs (r.1.filter fun h=>!inS b.1 h) by show (if _ then _ else _)=_; rw [if_neg (by rw [q]; decide)]]
  -- the rooms
  have e2:aO (left.map fun h=>if R h=true then iK (b::bs) h else 0)=mU left (fun h=>inS b.1 h && R h)*(b.2*60 / b.1.length)+aO ((left.filter fun h=>!inS b.1 h).map fun h=>if R h=true then iK bs h else 0):=by
   rw [pA _ (inS b.1)]
   congr 1
   ·rw [wW,List.filter_filter]
    have:(fun a=>R a && inS b.1 a)=fun h=>inS b.1 h && R h:=by funext x; exact Bool.and_comm ..
    rw [this]
    unfold mU
    refine nF fun h hh=>?_
    have q:=(Jc.mp hh).2
    rw [Jb] at q
    unfold iK
    rw [nG q.1]
   ·refine bQ fun h hh=>?_
    have q:=(Jc.mp hh).2
    have q':inS b.1 h=false:=by cases z:inS b.1 h with
     | true=>rw [z] at q; cases q
     | false=>rfl
    unfold iK
    rw [mV q']
  rw [e1,e2,Wo]
  have h1:=(a4 fun h=>inS b.1 h && R h).1
  have:60*wIn rows (fun h=>inS b.1 h && R h)<=mU left (fun h=>inS b.1 h && R h)*(b.2*60 / b.1.length):=by
   refine Yq (a:=(b.1.length:Int)) ?_ (by omega)
   rw [Xh,Xh,dv]
   have e3:mU left (fun h=>inS b.1 h && R h)*(b.2*60)=60*(b.2*mU left (fun h=>inS b.1 h && R h)):=by
    rw [Zf b.2 60,<- Xh,Zf _ 60,Xh,Zf _ b.2]
   rw [e3]
   omega
  omega
theorem aBb:∀ {bs:cW} {left:List Int} {rows:cW},gW left rows bs->gO left rows->left.length<=6->60*aO (rows.map (·.2))=aO (left.map (iK bs))
 | [],left,rows,hb,ok,_=>by
  rw [show left = [] from hb] at ok ⊢
  have:rows = []:=by
   cases rows with
   | nil=>rfl
   | cons r _ =>
    obtain ⟨a,b,_⟩:=ok r (Qn ..)
    cases q:r.1 with
    | nil=>exact absurd q a
    | cons x _=>exact absurd (b x (by rw [q]; exact Qn ..)) Qq
  rw [this]
  rfl
 | b::bs,left,rows,hb,ok,h6=>by
  have ih:=aBb hb.2 ok.redu (Qu (Jf _ _) h6)
  obtain ⟨a1,a2,a3,_⟩:=hb.1
  have l6:b.1.length<=6:=by rw [a2]; exact Qu (Jf _ _) h6
  have l0:0 < b.1.length:=Xd.mpr a1
  have dv:=aFi (m:=b.2) l0 l6
  rw [zH _ b.1 rows,pA _ (inS b.1) left,Wo]
  have e1:aO (rows.map fun r=>if r.1.all (inS b.1)=true then r.2 else 0)=b.2:=a3.symm
  have e5:aO (b.1.map (iK (b::bs)))=(b.1.length:Int)*(b.2*60 / b.1.length):=nF fun h hh=>by unfold iK; rw [nG (iE.mpr hh)]
  rw [e1,<- a2,e5]
  have e2:aO ((left.filter fun h=>!inS b.1 h).map (iK (b::bs)))=aO ((left.filter fun h=>!inS b.1 h).map (iK bs)):=bQ fun h hh=>by
   have q:=(Jc.mp hh).2
   have q':inS b.1 h=false:=by cases z:inS b.1 h with
    | true=>rw [z] at q; cases q
    | false=>rfl
   unfold iK
   rw [mV q']
  have e3:aO ((redu rows b.1).map (·.2))=aO ((rows.filter fun r=>!(r.1.all (inS b.1))).map (·.2)):=by
   unfold redu
   rw [Zb]
   rfl
  rw [e2,<- ih,e3]
  have e4:(b.1.length:Int)*(b.2*60 / b.1.length)=b.2*60:=by rw [Zf]; exact dv
  omega
def jU (x y:Int×Int):Bool:=decide (x.1*y.2 < y.1*x.2)
theorem vM:∀ {bs:cW} {left:List Int} {rows:cW},gW left rows bs->∀ l:List Int,(∀ h∈l,h∈left)->∀ h∈tkr bs l,h∈l/\∀ o∈l,jU (eZ bs o) (eZ bs h)=false
 | [],left,rows,hb,l,hl,h,hh=>by
  have hm:=hl h hh
  rw [show left = [] from hb] at hm
  cases hm
 | b::bs,left,rows,hb,l,hl,h,hh=>by
  cases q:l.all (inS b.1) with
  | true =>
   have hh':h∈l:=by
    have:tkr (b::bs) l=l:=by show (if _ then _ else _)=_; rw [if_pos q]
    rw [this] at hh; exact hh
   refine ⟨hh',fun o ho=>?_⟩
   rw [nG (Qy.mp q o ho),nG (Qy.mp q h hh')]
   exact decide_eq_false (by show ¬ b.2*_ < b.2*_; omega)
  | false =>
   have hh':h∈tkr bs (l.filter fun h=>!inS b.1 h):=by
    have:tkr (b::bs) l=tkr bs (l.filter fun h=>!inS b.1 h):=by show (if _ then _ else _)=_; rw [if_neg (by rw [q]; decide)]
    rw [this] at hh; exact hh
   obtain ⟨i1,i2⟩:=vM hb.2 (l.filter fun h=>!inS b.1 h) (fun x hx=>by
    obtain ⟨x1,x2⟩:=Jc.mp hx
    exact Jc.mpr ⟨hl x x1,x2⟩) h hh'
   obtain ⟨j1,j2⟩:=Jc.mp i1
   have no:∀ x,(!inS b.1 x)=true->inS b.1 x=false:=fun x hx=>by cases z:inS b.1 x with
    | true=>rw [z] at hx; cases hx
    | false=>rfl
   refine ⟨j1,fun o ho=>?_⟩
   rw [mV (no h j2)]
   cases z:inS b.1 o with
   | false=>rw [mV z]; exact i2 o (Jc.mpr ⟨ho,by rw [z]; rfl⟩)
   | true =>
    rw [nG z]
    obtain ⟨c,c1,_,c3⟩:=pB hb.2 h (Jc.mpr ⟨hl h j1,j2⟩)
    rw [c3]
    have:=(zG hb.1 hb.2 c c1).2
    exact decide_eq_false (by show ¬ b.2*(c.1.length:Int) < c.2*(b.1.length:Int); omega)
def bR (f:Int->Int×Int) (able:List Int):List Int:=able.filter fun h=>!(able.any fun o=>jU (f o) (f h))
theorem lQ {f:Int->Int×Int} {able:List Int} {h:Int}:h∈bR f able↔h∈able/\∀ o∈able,jU (f o) (f h)=false:=by
 unfold bR
 rw [Jc,Zd,List.any_eq_false]
 exact ⟨fun ⟨a,b⟩=>⟨a,fun o ho=>by have:=b o ho; cases z:jU (f o) (f h) with
  | true=>exact absurd z this
  | false=>rfl⟩,fun ⟨a,b⟩=>⟨a,fun o ho=>by rw [b o ho]; decide⟩⟩
theorem aAn {bs:cW} (hb:gW left rows bs) (ok:gO left rows) (h6:left.length<=6) (R:Int->Bool):60*aO (rows.map fun r=>if (bR (eZ bs) r.1).all R=true then r.2 else 0)<=aO (left.map fun h=>if R h=true then iK bs h else 0):=by
 have h1:=zI hb ok h6 R
 have h2:aO (rows.map fun r=>if (bR (eZ bs) r.1).all R=true then r.2 else 0)<=aO (rows.map fun r=>if (tkr bs r.1).all R=true then r.2 else 0):=mR fun r hr=>by
  obtain ⟨o1,o2,o3⟩:=ok r hr
  by_cases c:(bR (eZ bs) r.1).all R=true
  ·rw [if_pos c,if_pos (Qy.mpr fun h hh=>Qy.mp c h (lQ.mpr (vM hb r.1 o2 h hh)))]
   exact Xb _
  ·rw [if_neg c]
   split
   ·exact o3
   ·exact Xb _
 omega
theorem tM:∀ hs:List Int,∀ s∈iY hs,s≠[]:=by
 refine jT (fun s hs=>by cases hs) fun l x ih s hs=>?_
 rw [iM] at hs
 rcases Jg.mp hs with hs | hs
 ·exact ih s hs
 ·rcases Qj.mp hs with rfl | hs
  ·simp
  ·obtain ⟨s',_,rfl⟩:=Qz.mp hs
   simp
theorem aB0:∀ hs:List Int,∀ s∈iY hs,List.Sublist s hs:=by
 refine jT (fun s hs=>by cases hs) fun l x ih s hs=>?_
 rw [iM] at hs
 rcases Jg.mp hs with hs | hs
 ·exact (ih s hs).trans (List.sublist_append_left _ _)
 ·rcases Qj.mp hs with rfl | hs
  ·exact List.sublist_append_right _ _
  ·obtain ⟨s',h1,rfl⟩:=Qz.mp hs
   exact (ih s' h1).append (List.Sublist.refl _)
theorem aAo (p:Int->Bool):∀ hs:List Int,hs.filter p≠[]->hs.filter p∈iY hs:=by
 refine jT (fun h=>absurd rfl h) fun l x ih h=>?_
 rw [Xm] at h ⊢
 rw [iM]
 cases q:p x with
 | false =>
  have e : [x].filter p = []:=by rw [Qw,q]; rfl
  rw [e,Xe] at h ⊢
  exact Ju _ (ih h)
 | true =>
  have e : [x].filter p = [x]:=by rw [Qw,q]; rfl
  rw [e]
  refine Qp _ ?_
  by_cases c:l.filter p = []
  ·rw [c]; exact Qn ..
  ·exact Qs _ (Qz.mpr ⟨_,ih c,rfl⟩)
theorem aDh {s:List Int}:∀ {l:List Int},List.Sublist s l->l.Nodup->s=l.filter (inS s):=by
 intro l h nd
 have key:∀ (l s:List Int),List.Sublist s l->l.Nodup->∀ t:List Int,(∀ x,x∈l->(x∈t↔x∈s))->l.filter (inS t)=s:=by
  intro l s h
  induction h with
  | slnil=>intro _ _ _; rfl
  | cons a h ih =>
   intro nd t ht
   have nd':=Xr.mp nd
   have:inS t a=false:=decide_eq_false fun z=>nd'.1 (h.subset ((ht a (Qn ..)).mp z))
   rw [Qw,this]
   exact ih nd'.2 t fun x hx=>ht x (Qs _ hx)
  | cons_cons a h ih =>
   intro nd t ht
   have nd':=Xr.mp nd
   have:inS t a=true:=iE.mpr ((ht a (Qn ..)).mpr (Qn ..))
   rw [Qw,this,if_pos rfl]
   congr 1
   refine ih nd'.2 t fun x hx=>?_
   rw [ht x (Qs _ hx),Qj]
   exact ⟨fun z=>z.resolve_left fun e=>nd'.1 (by rw [<- e]; exact hx),.inr⟩
 exact (key l s h nd s fun _ _=>Iff.rfl).symm
def oC (rows:cW) (done:List (List Int)) (b:List Int) (m:Int):Prop :=
 (done = []/\b = []/\m=0)∨(b∈done/\m=wIn rows (inS b)/\∀ s∈done,wIn rows (inS s)*b.length<=m*s.length/\(wIn rows (inS s)*b.length=m*s.length->s.length<=b.length))
theorem aB1 {done:List (List Int)} {b s:List Int} {m:Int} (hne:∀ t∈done,t≠[]) (hs:s≠[]) (h:oC rows done b m) :
  (0 < wIn rows (inS s)*b.length - m*s.length∨wIn rows (inS s)*b.length - m*s.length=0/\(b.length:Int) < s.length->oC rows (done++[s]) s (wIn rows (inS s))) /\
  (¬ (0 < wIn rows (inS s)*b.length - m*s.length∨wIn rows (inS s)*b.length - m*s.length=0/\(b.length:Int) < s.length)->oC rows (done++[s]) b m):=by
 have ps:(0:Int) < s.length:=by have:=Xd.mpr hs; omega
 generalize hW:wIn rows (inS s)=W
 rcases h with ⟨rfl,rfl,rfl⟩ | ⟨hb,hm,ha⟩
 ·constructor
  ·intro _
   refine .inr ⟨by simp,hW.symm,fun t ht=>?_⟩
   rw [Yb] at ht
   rw [Qi.mp ht,hW]
   exact ⟨Xb _,fun _=>Qg _⟩
  ·intro c
   refine absurd (.inr ⟨?_,by show ((0:Nat):Int) < _; omega⟩) c
   show W*((0:Nat):Int) - 0*_=0
   omega
 ·have pb:(0:Int) < b.length:=by have:=Xd.mpr (hne b hb); omega
  constructor
  ·intro c
   refine .inr ⟨by simp,hW.symm,fun t ht=>?_⟩
   rcases Jg.mp ht with ht | ht
   ·obtain ⟨h1,h2⟩:=ha t ht
    generalize hT:wIn rows (inS t)=T at h1 h2
    have pt:(0:Int) < t.length:=by have:=Xd.mpr (hne t ht); omega
    -- T/t<=m/b<=W/s
    have k1:T*b.length*s.length<=m*t.length*s.length:=Yk h1 (Zp ps)
    have k2:m*s.length*t.length<=W*b.length*t.length:=Yk (by omega) (Zp pt)
    have e1:T*(b.length:Int)*s.length=T*s.length*b.length:=Za ..
    have e2:m*(t.length:Int)*s.length=m*s.length*t.length:=Za ..
    have e3:W*(b.length:Int)*t.length=W*t.length*b.length:=Za ..
    refine ⟨Yq (a:=(b.length:Int)) (by omega) pb,fun z=>?_⟩
    have z':T*s.length*b.length=W*t.length*b.length:=by rw [z]
    have f2:m*s.length*t.length=W*b.length*t.length:=by omega
    have g2:m*(s.length:Int)=W*b.length:=Yr (by omega) f2
    have f1:T*b.length*s.length=m*t.length*s.length:=by omega
    have g1:T*(b.length:Int)=m*t.length:=Yr (by omega) f1
    have:=h2 g1
    omega
   ·rw [Qi.mp ht,hW]
    exact ⟨Xb _,fun _=>Qg _⟩
  ·intro c
   refine .inr ⟨Ju _ hb,hm,fun t ht=>?_⟩
   rcases Jg.mp ht with ht | ht
   ·exact ha t ht
   ·rw [Qi.mp ht,hW]
    exact ⟨by omega,fun z=>by omega⟩
theorem aEx {b:List Int} {m:Int} (nd:left.Nodup) (ok:gO left rows) (hl:left≠[]) (h:oC rows (iY left) b m):aDe left rows b m:=by
 rcases h with ⟨h0,_⟩ | ⟨hb,hm,ha⟩
 ·cases left with
  | nil=>exact absurd rfl hl
  | cons x l =>
   have:=aBY (x::l) x (Qn ..)
   rw [h0] at this; cases this
 ·refine ⟨tM _ _ hb,aDh (aB0 _ _ hb) nd,hm,fun p=>?_⟩
  by_cases c:left.filter p = []
  ·have e1:wIn rows p=0:=gI fun r hr=>if_neg fun z=>by
    obtain ⟨r1,r2,_⟩:=ok r hr
    cases q:r.1 with
    | nil=>exact r1 q
    | cons x t =>
     have hx:x∈r.1:=by rw [q]; exact Qn ..
     have:x∈left.filter p:=Jc.mpr ⟨r2 x hx,Qy.mp z x hx⟩
     rw [c] at this; cases this
   have e2:mU left p=0:=by unfold mU; rw [c]; rfl
   rw [e1,e2]
   exact ⟨by omega,fun _=>by omega⟩
  ·have h1:=ha _ (aAo p left c)
   have e:wIn rows (inS (left.filter p))=wIn rows p:=bQ fun r hr=>by
    obtain ⟨_,r2,_⟩:=ok r hr
    have:r.1.all (inS (left.filter p))=r.1.all p:=by
     rw [Xf,Qy,Qy]
     exact ⟨fun z x hx=>(Jc.mp (iE.mp (z x hx))).2,fun z x hx=>iE.mpr (Jc.mpr ⟨r2 x hx,z x hx⟩)⟩
    rw [this]
   rw [e] at h1
   exact ⟨h1.1,fun z=>by unfold mU; have:=h1.2 z; omega⟩
theorem rQ (n:Nat):(bN n).Nodup:=by
 unfold bN
 rw [List.nodup_iff_pairwise_ne,List.pairwise_map]
 refine List.Pairwise.imp ?_ List.nodup_range
 intro a b h z
 exact h (by omega)
theorem vN (n:Nat):bN (n+1)=bN n++[(n:Int)]:=by
 unfold bN
 rw [List.range_succ,Qr]
 rfl
def iF (hl:Nat->Int->Int) (m:Nat) (h:Int):Int:=aO ((List.range m).map fun w=>hl w h)
def aAp (hl:Nat->Int->Int) (n w:Nat):Int:=aO ((bN (n+1)).map (hl w))
def nO (tk:List (List Int)) (w:Nat):List Int:=tk.getD w []
def EdP (tk:List (List Int)) (hl:Nat->Int->Int) (g:Int) (w:Nat) (t:Int):Prop:=w < tk.length/\0 < hl w g/\t∈nO tk w
structure Spr (n:Nat) (tk:List (List Int)) (am:Nat->Int) (rm:Int->Int) (hl:Nat->Int->Int) (room:Int->Int):Prop where
 nn:∀ w h,0<=hl w h
 sup:∀ w h,w < tk.length->0 < hl w h->h=n∨h∈nO tk w
 rows:∀ w,w < tk.length->aAp hl n w=am w
 cols:∀ h:Int,0<=h->h < n->iF hl tk.length h+room h=rm h
 rnn:∀ h,0<=room h
def aDi (n:Nat) (tk:List (List Int)) (am:Nat->Int) (rm:Int->Int):Prop :=
 ∀ R:Int->Bool,aO ((List.range tk.length).map fun w=>if (nO tk w).all R=true then am w else 0)<=aO ((bN n).map fun h=>if R h=true then rm h else 0)
theorem aF3 (S:Spr n tk am rm hl room) (hall:aDi n tk am rm) {os:List Int} (hc:∀ g∈os,∀ w t,EdP tk hl g w t->t∈os) (hn:(n:Int)∈os) (pos:0 < iF hl tk.length n) :
  ∃ h∈os,0<=h/\h < n/\0 < room h:=by
 by_cases c:∃ h∈os,0<=h/\h < n/\0 < room h
 ·exact c
 ·exfalso
  have z:∀ h∈os,0<=h->h < n->room h=0:=fun h h1 h2 h3=>by
   have:=S.rnn h
   by_cases q:0 < room h
   ·exact absurd ⟨h,h1,h2,h3,q⟩ c
   ·omega
  have h1:=hall (inS os)
  have e1:aO ((bN n).map fun h=>if inS os h=true then rm h else 0)=aO ((List.range tk.length).map fun w=>aO ((bN n).map fun h=>if inS os h=true then hl w h else 0)):=by
   rw [tK]
   refine bQ fun h hh=>?_
   obtain ⟨u1,u2⟩:=iD.mp hh
   by_cases q:inS os h=true
   ·have:=S.cols h u1 u2
    rw [z h (iE.mp q) u1 u2] at this
    rw [if_pos q,<- this]
    unfold iF
    rw [Int.add_zero]
    exact bQ fun w _=>by rw [if_pos q]
   ·rw [if_neg q]
    exact (gI fun w _=>by rw [if_neg q]).symm
  have e2:aO ((List.range tk.length).map fun w=>aO ((bN n).map fun h=>if inS os h=true then hl w h else 0)+hl w n)<=aO ((List.range tk.length).map fun w=>if (nO tk w).all (inS os)=true then am w else 0):=by
   refine mR fun w hw=>?_
   have hw':=Js.mp hw
   by_cases q:(nO tk w).all (inS os)=true
   ·rw [if_pos q,<- S.rows w hw']
    unfold aAp
    rw [vN,Qr,lO]
    have:aO ((bN n).map fun h=>if inS os h=true then hl w h else 0)<=aO ((bN n).map (hl w)):=mR fun h _=>by
     have:=S.nn w h
     split <;> omega
    show _<=_+(hl w n+0)
    omega
   ·rw [if_neg q]
    have hz:∀ g∈os,hl w g=0:=fun g hg=>by
     have:=S.nn w g
     by_cases p:0 < hl w g
     ·exact absurd (Qy.mpr fun t ht=>iE.mpr (hc g hg w t ⟨hw',p,ht⟩)) q
     ·omega
    rw [hz n hn,gI fun h _=>?_]
    ·omega
    ·by_cases p:inS os h=true
     ·rw [if_pos p,hz h (iE.mp p)]
     ·rw [if_neg p]
  rw [iN] at e2
  unfold iF at pos
  omega
def mvP (hl:Nat->Int->Int) (w:Nat) (g t u:Int):Nat->Int->Int:=fun v h=>if v=w then hl v h - (if h=g then u else 0)+(if h=t then u else 0) else hl v h
theorem aF4 {w:Nat} {g t u:Int} (hw:w < m) (h:Int):iF (mvP hl w g t u) m h=iF hl m h - (if h=g then u else 0)+(if h=t then u else 0):=by
 unfold iF
 have e:∀ v,mvP hl w g t u v h=hl v h+(if v=w then (if h=t then u else 0) - (if h=g then u else 0) else 0):=fun v=>by
  unfold mvP
  split <;> omega
 rw [bQ fun v _=>e v,iN,mT _ w List.nodup_range (Js.mpr hw)]
 omega
theorem aF5 {w:Nat} {g t u:Int} (g0:0<=g) (g1:g<=n) (t0:0<=t) (t1:t<=n) (v:Nat):aAp (mvP hl w g t u) n v=aAp hl n v:=by
 unfold aAp
 by_cases c:v=w
 ·have e:∀ h,mvP hl w g t u v h=hl v h+((if h=t then u else 0)+(if h=g then -u else 0)):=fun h=>by
   unfold mvP
   rw [if_pos c]
   split <;> split <;> omega
  have hm:∀ x:Int,0<=x->x<=n->x∈bN (n+1):=fun x h0 h1=>iD.mpr ⟨h0,by omega⟩
  rw [bQ fun h _=>e h,iN,iN,mT _ t (rQ _) (hm t t0 t1),mT _ g (rQ _) (hm g g0 g1)]
  omega
 ·exact bQ fun h _=>by unfold mvP; rw [if_neg c]
def tN (E:Int->Nat->Int->Prop):Int->List (Nat×Int×Int)->Int->Prop
 | h,[],x=>h=x
 | h,s::r,x=>s.2.1=h/\E h s.1 s.2.2/\tN E s.2.2 r x
def vtx (first:Int) (ss:List (Nat×Int×Int)):List Int:=first::ss.map (·.2.2)
theorem lR {E:Int->Nat->Int->Prop}:∀ {ss:List (Nat×Int×Int)} {h x:Int},tN E h ss x->(∀ (i:Nat) s,ss[i]?=some s->(vtx h ss)[i]?=some s.2.1/\E s.2.1 s.1 s.2.2/\(vtx h ss)[i+1]?=some s.2.2)/\(vtx h ss)[ss.length]?=some x
 | [],h,x,e=>⟨fun i s z=>by simp at z,by rw [show h=x from e]; rfl⟩
 | s::r,h,x,e=>by
  obtain ⟨e1,e2,e3⟩:=e
  obtain ⟨i1,i2⟩:=lR e3
  refine ⟨fun i q z=>?_,?_⟩
  ·cases i with
   | zero =>
    have z':s=q:=by simpa using z
    subst z'
    exact ⟨by rw [e1]; rfl,by rw [e1]; exact e2,rfl⟩
   | succ i=>exact i1 i q (by simpa using z)
  ·show (h::s.2.2::r.map (·.2.2))[r.length+1]?=some x
   exact i2
structure Gone (n:Nat) (tk:List (List Int)) (am:Nat->Int) (h0:Nat->Int->Int) (ss:List (Nat×Int×Int)) (u:Int) (i:Nat) (hl:Nat->Int->Int):Prop where
 nn:∀ w h,0<=hl w h
 sup:∀ w h,w < tk.length->0 < hl w h->h=n∨h∈nO tk w
 rows:∀ w,w < tk.length->aAp hl n w=am w
 col:∀ c,(vtx n ss)[i]?=some c->∀ h,iF hl tk.length h=iF h0 tk.length h - (if h=n then u else 0)+(if h=c then u else 0)
 more:∀ w h,(∀ j:Nat,j < i->(vtx n ss)[j]?≠some h)->h0 w h<=hl w h
theorem aF6 {u:Int} (S:Spr n tk am rm hl room):Gone n tk am hl ss u 0 hl :=
 ⟨S.nn,S.sup,S.rows,fun c hc h=>by
  have:(n:Int)=c:=by simpa [vtx] using hc
  rw [this]; omega,fun w h _=>Xb _⟩
theorem aB2 {h0:Nat->Int->Int} {u x:Int} {i:Nat} {w:Nat} {g t:Int} (G:Gone n tk am h0 ss u i hl) (hp:tN (EdP tk h0) n ss x) (nd:(vtx n ss).Nodup) (hs:ss[i]?=some (w,g,t)) (hu0:0<=u) (hu:∀ s∈ss,u<=h0 s.1 s.2.1) (htk:∀ w,∀ h∈nO tk w,0<=h/\h < n):Gone n tk am h0 ss u (i+1) (mvP hl w g t u)/\u<=hl w g/\g≠t:=by
 obtain ⟨p1,_⟩:=lR hp
 obtain ⟨a1,⟨a2,a3,a4⟩,a5⟩:=p1 i _ hs
 have gi:∀ j:Nat,j < i->(vtx n ss)[j]?≠some g:=fun j hj z=>by
  have:=(Yg (Qd.mp z).1 nd).mp (z.trans a1.symm)
  omega
 have gt:g≠t:=fun z=>by
  subst z
  have:=(Yg (Qd.mp a1).1 nd).mp (a1.trans a5.symm)
  omega
 have hug:u<=hl w g:=Yl (hu _ (Qe hs)) (G.more w g gi)
 have gr:0<=g/\g<=n:=by
  cases i with
  | zero =>
   have:(n:Int)=g:=by simpa [vtx] using a1
   omega
  | succ i =>
   have hi:i < ss.length:=by
    have:=(Qd.mp a1).1
    simp [vtx] at this
    omega
   obtain ⟨_,⟨_,_,b3⟩,b4⟩:=p1 i _ (Qc hi)
   rw [b4] at a1
   have e:ss[i].2.2=g:=Option.some.inj a1
   rw [e] at b3
   have:=htk _ _ b3
   omega
 obtain ⟨t0,t1⟩:=htk w t a4
 refine ⟨⟨fun v h=>?_,fun v h hv hp=>?_,fun v hv=>?_,fun c hc h=>?_,fun v h hh=>?_⟩,hug,gt⟩
 ·have:=G.nn v h
  unfold mvP
  by_cases c:v=w
  ·rw [if_pos c]
   by_cases c2:h=g
   ·rw [if_pos c2,c2,c]
    split <;> omega
   ·rw [if_neg c2]
    split <;> omega
  ·rw [if_neg c]; exact this
 ·unfold mvP at hp
  by_cases c:v=w
  ·rw [if_pos c] at hp
   by_cases c2:h=t
   ·exact .inr (by rw [c,c2]; exact a4)
   ·rw [if_neg c2] at hp
    exact G.sup v h hv (by split at hp <;> omega)
  ·rw [if_neg c] at hp
   exact G.sup v h hv hp
 ·rw [aF5 gr.1 gr.2 t0 (by omega)]
  exact G.rows v hv
 ·rw [a5] at hc
  have e:t=c:=Option.some.inj hc
  rw [aF4 a2,G.col g a1 h,e]
  omega
 ·have h1:=G.more v h fun j hj=>hh j (by omega)
  unfold mvP
  by_cases c:v=w
  ·rw [if_pos c,if_neg (fun z=>hh i (by omega) (by rw [z]; exact a1))]
   split <;> omega
  ·rw [if_neg c]; exact h1
theorem aDj {h0:Nat->Int->Int} {u last:Int} (S:Spr n tk am rm h0 room) (G:Gone n tk am h0 ss u ss.length hl) (hp:tN (EdP tk h0) n ss last) (hl1:last < n) (hu:u<=room last) :
  Spr n tk am rm hl (fun h=>if h=last then room h - u else room h)/\iF hl tk.length n=iF h0 tk.length n - u:=by
 have hc:=G.col last (lR hp).2
 refine ⟨⟨G.nn,G.sup,G.rows,fun h a b=>?_,fun h=>?_⟩,?_⟩
 ·have:=S.cols h a b
  rw [hc h,if_neg (show ¬ h=n by omega)]
  split <;> omega
 ·have:=S.rnn h
  show 0<=if h=last then room h - u else room h
  split
  ·rename_i e; rw [e]; omega
  ·exact this
 ·rw [hc n,if_pos rfl,if_neg (by omega)]; omega
theorem aG5 (ha:∀ w,0<=am w) (hr:∀ h,0<=rm h):Spr n tk am rm (fun w h=>if h=n then am w else 0) (fun h=>rm h):=by
 refine ⟨fun w h=>?_,fun w h _ hp=>?_,fun w _=>?_,fun h h0 h1=>?_,hr⟩
 ·show 0<=if h=n then am w else 0
  split
  ·exact ha w
  ·exact Xb _
 ·by_cases c:h=n
  ·exact .inl c
  ·rw [if_neg c] at hp; omega
 ·exact mT (am w) (n:Int) (rQ _) (iD.mpr ⟨by omega,by omega⟩)
 ·unfold iF
  rw [gI fun w _=>if_neg (show ¬ h=n by omega)]; omega
structure Sprd (n:Nat) (tk:List (List Int)) (am:Nat->Int) (rm:Int->Int) (hl:Nat->Int->Int):Prop where
 nn:∀ w h,0<=hl w h
 sup:∀ w h,w < tk.length->0 < hl w h->h∈nO tk w
 rows:∀ w,w < tk.length->aO ((bN n).map (hl w))=am w
 cols:∀ h:Int,0<=h->h < n->iF hl tk.length h<=rm h
theorem aEy (S:Spr n tk am rm hl room) (h0:iF hl tk.length n<=0):Sprd n tk am rm hl:=by
 have z:∀ w,w < tk.length->hl w n=0:=fun w hw=>by
  have h1:hl w n<=iF hl tk.length n:=kS (f:=fun w=>hl w n) (fun v _=>S.nn v n) (Js.mpr hw)
  have:=S.nn w n
  omega
 refine ⟨S.nn,fun w h hw hp=>(S.sup w h hw hp).resolve_left fun e=>by rw [e,z w hw] at hp; omega,fun w hw=>?_,fun h a b=>?_⟩
 ·rw [<- S.rows w hw]
  unfold aAp
  rw [vN,Qr,lO]
  show _=_+(hl w n+0)
  rw [z w hw]; omega
 ·have:=S.cols h a b
  have:=S.rnn h
  omega
theorem aB3 (S:Sprd n tk am rm hl) (ht:aO ((List.range tk.length).map am)=aO ((bN n).map rm)):∀ h:Int,0<=h->h < n->iF hl tk.length h=rm h:=fun h a b=>by
 have e:aO ((bN n).map (iF hl tk.length))=aO ((bN n).map rm):=by
  rw [<- ht]
  show aO ((bN n).map fun h=>aO ((List.range tk.length).map fun w=>hl w h))=_
  rw [<- tK]
  exact bQ fun w hw=>S.rows w (Js.mp hw)
 have h1:rm h - iF hl tk.length h<=aO ((bN n).map fun h=>rm h+(-1)*iF hl tk.length h):=by
  have:=kS (f:=fun h=>rm h+(-1)*iF hl tk.length h) (l:=bN n) (y:=h) (fun x hx=>by
   obtain ⟨u1,u2⟩:=iD.mp hx
   have:=S.cols x u1 u2
   show 0<=rm x+(-1)*iF hl tk.length x
   omega) (iD.mpr ⟨a,b⟩)
  show rm h - _<=_
  omega
 rw [iN,lP,e] at h1
 have:=S.cols h a b
 omega
theorem aDk (a:Int) {b:Int} (_:0 < b):(Int.gcd a b:Int)*mQ a b=a:=Wk (Int.gcd_dvd_left ..)
theorem aBc (a:Int) {b:Int} (_:0 < b):(Int.gcd a b:Int)*nN a b=b:=Wk (Int.gcd_dvd_right ..)
theorem pC (a:Int) {b:Int} (hb:0 < b):0 < nN a b:=by
 have h1:=aBc a hb
 have h2:=nE (a:=a) hb
 exact Int.pos_of_mul_pos_right (a:=(Int.gcd a b:Int)) (by omega) h2
theorem rR {a b:Int} (ha:0<=a) (hb:0 < b):0<=mQ a b:=Int.ediv_nonneg ha (by omega)
theorem rS {a b:Int} (ha:0<=a) (hb:0 < b):mQ a b<=a:=Int.ediv_le_self _ ha
theorem rT {a b:Int} (hb:0 < b):nN a b<=b:=Int.ediv_le_self _ (by omega)
def jC (x:Int×Int):Int×Int:=(mQ x.1 x.2,nN x.1 x.2)
theorem zJ {x y:Int×Int} (hx:0 < x.2) (hy:0 < y.2):jU (jC x) (jC y)=jU x y:=by
 unfold jU jC
 have a1:=aDk x.1 hx
 have b1:=aBc x.1 hx
 have a2:=aDk y.1 hy
 have b2:=aBc y.1 hy
 have g1:=nE (a:=x.1) hx
 have g2:=nE (a:=y.1) hy
 generalize (Int.gcd x.1 x.2:Int)=g at a1 b1 g1
 generalize (Int.gcd y.1 y.2:Int)=k at a2 b2 g2
 show decide (mQ x.1 x.2*nN y.1 y.2 < mQ y.1 y.2*nN x.1 x.2)=_
 generalize mQ x.1 x.2=A at a1 ⊢
 generalize nN x.1 x.2=B at b1 ⊢
 generalize mQ y.1 y.2=C at a2 ⊢
 generalize nN y.1 y.2=D at b2 ⊢
 rw [<- a1,<- b1,<- a2,<- b2]
 have e1:g*A*(k*D)=(g*k)*(A*D):=by rw [Xh,Xh,<- Xh A k D,Zf A k,Xh]
 have e2:k*C*(g*B)=(g*k)*(C*B):=by rw [Xh,<- Xh C g B,Zf C g,Xh,<- Xh k g,Zf k g]
 rw [e1,e2]
 have p:0 < g*k:=Wp g1 g2
 refine decide_eq_decide.mpr ⟨fun h=>Int.mul_lt_mul_of_pos_left h p,fun h=>Int.lt_of_mul_lt_mul_left h (Zp p)⟩
end Ab
namespace L2
open PySem PySem.Spec PyProof.Rows
def tO (i j:Int):Prop:=i.natAbs < 2^4000/\j.natAbs < 2^4000
theorem aBd {i:Int} (h:i.natAbs < 2^4000):Builtin.Int.intBits i<=2^20:=by
 unfold Builtin.Int.intBits
 split
 ·exact Jj _
 ·rename_i hz
  have hz':i≠0:=by simpa using hz
  have h3:i.natAbs.log2 < 4000:=(Wz (by omega)).mpr h
  have:(2:Nat)^20=1048576:=by decide
  omega
theorem tO.ok {i j:Int} (h:tO i j):IntMulOk i j:=IntMulOk.of_bits (aBd h.1) (aBd h.2)
theorem cY:OpR X (binaryOp .Mult) (rI tO fun i j=>.int (i*j)):=opI fun _ _ _ _ _ _ _ hc q=>mul_int q hc.ok
def aG6 (i j:Int):Prop:=0 < j/\j.natAbs < 2^4000
theorem mW:OpR X (binaryOp .FloorDiv) (rI aG6 fun i j=>.int (i / j)):=opI fun i j _ _ _ _ _ hc q=>by
 have h1:(0:Int) < j:=hc.1
 refine floordiv_int (by omega) (by rw [Zs i (by omega)]; exact q) (.inl (PyProof.noPylong_of_log2 ?_))
 have h3:j.natAbs.log2 < 4000:=(Wz (by omega)).mpr hc.2
 omega
end L2
namespace Ab
open PySem L2
theorem zK (x y:Int):Int.gcd y (x % y)=Int.gcd x y:=by
 rw [Int.gcd_comm x y]
 refine Int.gcd_right_eq_iff.mpr fun c hc=>?_
 have h1:c ∣ y*(x / y):=Int.dvd_mul_of_dvd_left hc
 have h2:=Int.emod_add_mul_ediv x y
 constructor
 ·intro h
  rw [<- h2]
  exact Int.dvd_add h h1
 ·intro h
  rw [Int.emod_def]
  exact Int.dvd_sub h h1
def zL:Sp:=fun vs H Q _=>∃ a b:Int,vs = [.int a,.int b]/\0 < b/\Q (.int (Int.gcd a b)) H
theorem zM:FnScope ["a", "b"] ["a", "b"] (aI rL):=⟨rfl,rfl,rfl,by decide +kernel,rfl,by decide +kernel,by decide +kernel⟩
theorem aB4 (G:Fn K mg "common" rL ["a", "b"] f fd) (B:Bl mg):FnOk P w K mg base CX0 1 f fd ["a", "b"] zL:=by
 refine G.fn.ok zM (fun vs H Q E h=>?_) (fun cdv A outer s H vs Q E hr h=>?_)
 ·obtain ⟨a,b,rfl,_⟩:=h
  rfl
 ·obtain ⟨a,b,rfl,hb,k⟩:=h
  refine ⟨_,(aE (kI PassesOwn.never (bF mC (pv 1) aG (bK _))
   (aJ (aCu (i:=0) (j:=1) rfl zM.nd rfl rfl (by decide) rfl rfl (aA (pv 1) (aA (aU nU (pv 0) (pv 1)) aC)) rfl)))
  (aJ (aR (pv 0)))),?_⟩
  refine ⟨fun m σ H1=>∃ x y:Int,σ = [some (.int x),some (.int y)]/\H1=H/\m=y.toNat/\0<=y/\Int.gcd x y=Int.gcd a b/\(y=0->0 < x),⟨_,a,b,rfl,rfl,rfl,by omega,rfl,by omega⟩,?_⟩
  rintro m σ H1 ⟨x,y,rfl,rfl,rfl,hy,hg,hx⟩
  refine ⟨_,rfl,rfl,_,rfl,?_⟩
  refine gD (fun c=>?_) (fun c=>?_)
  ·have hy0:y≠0:=by simpa using c
   have hyp:0 < y:=by omega
   refine ⟨fun σ H2=>∃ u v:Int,σ = [some (.int u),some (.int v)]/\H2=H1/\v.toNat < y.toNat/\0<=v/\Int.gcd u v=Int.gcd a b/\(v=0->0 < u),?_,?_⟩
   ·rintro σ' H' ⟨u,v,rfl,rfl,h1,h2,h3,h4⟩
    exact ⟨_,h1,u,v,rfl,rfl,rfl,h2,h3,h4⟩
   ·refine ⟨_,rfl,_,rfl,_,rfl,_,_,rfl,rfl,hyp,_,_,rfl,?_⟩
    have l1:=Yc x hy0
    have l2:=Zm x hyp
    exact ⟨y,x % y,rfl,rfl,by omega,l1,(zK x y).trans hg,fun _=>hyp⟩
  ·have hy0:y=0:=by simpa using c
   subst hy0
   refine ⟨_,rfl,?_⟩
   have hx':=hx rfl
   have:(Int.gcd a b:Int)=x:=by rw [<- hg,Int.gcd_zero]; omega
   rw [this] at k
   exact k
def iZ:Sp:=fun vs H Q _=>∃ a b:Int,vs = [.int a,.int b]/\0 < b/\b < 2^1000/\∀ p,H p=none->Q (.ref p) (upd H p (.tup [.int (mQ a b),.int (nN a b)]))
theorem aDl {a b m:Int} (hb:0 < b) (h:b < m):(Int.gcd a b:Int) < m:=Xt (Int.gcd_le_right a hb) h
theorem aG7 {b:Int} (h0:0 < b) (h:b < 2^1000):b.natAbs < 2^4000:=by
 have h2:b.natAbs < 2^1000:=by
  have:((2:Int)^1000)=((2^1000:Nat):Int):=by rw [Int.natCast_pow]; rfl
  rw [this] at h
  omega
 exact Ql h2 (Zt (by decide) (by decide))
theorem zN:FnScope ["a", "b", "most"] ["a", "b"] (aI nC):=⟨rfl,rfl,rfl,by decide +kernel,rfl,by decide +kernel,by decide +kernel⟩
theorem aB5 {fC:Addr} {dC:FuncData} (G:Fn K mg "lowest" nC ["a", "b"] f fd) (B:Bl mg) (GC:Fn K mg "common" rL ["a", "b"] fC dC):FnOk P w K mg base CX0 2 f fd ["a", "b"] iZ:=by
 have OC:FnOk P w K mg base CX0 1 fC dC ["a", "b"] zL:=aB4 GC B
 refine G.fn.ok zN (fun vs H Q E h=>?_) (fun cdv A outer s H vs Q E hr h=>?_)
 ·obtain ⟨a,b,rfl,_⟩:=h
  rfl
 ·obtain ⟨a,b,rfl,hb,hbb,k⟩:=h
  refine ⟨_,(aE (aS (i:=2) zN.nd rfl (Or.inl rfl) (bD GC OC hr rfl (aA (pv 0) (aA (pv 1) aC))))
  (aJ (aR (bG (aA (aU mW (pv 0) (pv 2)) (aA (aU mW (pv 1) (pv 2)) aC)))))),?_⟩
  have g0:=nE (a:=a) hb
  have g1:=aG7 g0 (aDl (a:=a) hb hbb)
  exact ⟨_,rfl,_,rfl,a,b,rfl,hb,_,rfl,_,rfl,_,_,rfl,rfl,⟨g0,g1⟩,_,rfl,_,rfl,_,_,rfl,rfl,⟨g0,g1⟩,sz2 _ _,fun p hp=>k p hp⟩
def Fra (K:PySem.W.Frag) (H:Hp) (p:Addr) (a b:Int):Prop:=SqT K H p [.int a,.int b]/\0 < b/\b < 2^200/\a.natAbs < 2^200
theorem zO {b:Int} (h0:0 < b) (h:b < 2^200):b.natAbs < 2^200:=by
 have:((2:Int)^200)=((2^200:Nat):Int):=by rw [Int.natCast_pow]; rfl
 rw [this] at h
 omega
theorem jI {b:Int} (h:b.natAbs < 2^200):b.natAbs < 2^4000:=Ql h (Zt (by decide) (by decide))
def wX (K:PySem.W.Frag):Sp:=fun vs H Q _=>∃ (p1 p2:Addr) (a b c d:Int),vs = [.ref p1,.ref p2]/\Fra K H p1 a b/\Fra K H p2 c d/\∀ p,H p=none->Q (.ref p) (upd H p (.tup [.int (mQ (a*d+c*b) (b*d)),.int (nN (a*d+c*b) (b*d))]))
theorem aF7:FnScope ["one", "other"] ["one", "other"] (aI yX):=⟨rfl,rfl,rfl,by decide +kernel,rfl,by decide +kernel,by decide +kernel⟩
theorem aFj {b d:Int} (hb:0 < b) (hd:0 < d) (h1:b < 2^200) (h2:d < 2^200):0 < b*d/\b*d < 2^1000:=by
 refine ⟨Wp hb hd,?_⟩
 have h:b*d<=2^200*2^200:=Xw (Zp h1) (Zp h2) (Zp hd) (by decide)
 exact Xt h (by decide)
theorem aEz (G:Fn K mg "plus" yX ["one", "other"] f fd) (B:Bl mg) (GL:Fn K mg "lowest" nC ["a", "b"] fL dL) (OL:FnOk P w K mg base CX0 2 fL dL ["a", "b"] iZ):FnOk P w K mg base CX0 3 f fd ["one", "other"] (wX K):=by
 refine G.fn.ok aF7 (fun vs H Q E h=>?_) (fun cdv A outer s H vs Q E hr h=>?_)
 ·obtain ⟨p1,p2,a,b,c,d,rfl,_⟩:=h
  rfl
 ·obtain ⟨p1,p2,a,b,c,d,rfl,⟨s1,b0,b1,a1⟩,⟨s2,d0,d1,c1⟩,k⟩:=h
  have r2:Room 2 _:=hr
  refine ⟨_,(aJ (aR (bD GL OL r2 rfl (aA (aU eJ (aU cY (aT bO (pv 0) aG (fun _ _=>rfl)) (aT bO (pv 1) aG (fun _ _=>rfl))) (aU cY (aT bO (pv 1) aG (fun _ _=>rfl)) (aT bO (pv 0) aG (fun _ _=>rfl)))) (aA (aU cY (aT bO (pv 0) aG (fun _ _=>rfl)) (aT bO (pv 1) aG (fun _ _=>rfl))) aC))))),?_⟩
  have bn:=jI (zO b0 b1)
  have dn:=jI (zO d0 d1)
  have an:=jI a1
  have cn:=jI c1
  obtain ⟨m1,m2⟩:=aFj b0 d0 b1 d1
  refine ⟨_,rfl,p1,_,0,_,rfl,rfl,s1,rfl,_,rfl,p2,_,1,_,rfl,rfl,s2,rfl,a,d,rfl,rfl,⟨an,dn⟩,_,rfl,p2,_,0,_,rfl,rfl,s2,rfl,_,rfl,p1,_,1,_,rfl,rfl,s1,rfl,c,b,rfl,rfl,⟨cn,bn⟩,_,_,rfl,rfl,
   _,rfl,p1,_,1,_,rfl,rfl,s1,rfl,_,rfl,p2,_,1,_,rfl,rfl,s2,rfl,b,d,rfl,rfl,⟨bn,dn⟩,_,_,rfl,m1,m2,fun p hp=>k p hp⟩
def aAq (K:PySem.W.Frag):Sp:=fun vs H Q _=>∃ (p1 p2:Addr) (a b c d:Int),vs = [.ref p1,.ref p2]/\Fra K H p1 a b/\Fra K H p2 c d/\Q (.bl (decide (a*d < c*b))) H
theorem aF8:FnScope ["one", "other"] ["one", "other"] (aI aA0):=⟨rfl,rfl,rfl,by decide +kernel,rfl,by decide +kernel,by decide +kernel⟩
theorem aEA (G:Fn K mg "is_less" aA0 ["one", "other"] f fd):FnOk P w K mg base CX0 1 f fd ["one", "other"] (aAq K):=by
 refine G.fn.ok aF8 (fun vs H Q E h=>?_) (fun cdv A outer s H vs Q E hr h=>?_)
 ·obtain ⟨p1,p2,a,b,c,d,rfl,_⟩:=h
  rfl
 ·obtain ⟨p1,p2,a,b,c,d,rfl,⟨s1,b0,b1,a1⟩,⟨s2,d0,d1,c1⟩,k⟩:=h
  refine ⟨_,(aJ (aR (gB aCw (aU cY (aT bO (pv 0) aG (fun _ _=>rfl)) (aT bO (pv 1) aG (fun _ _=>rfl))) (aU cY (aT bO (pv 1) aG (fun _ _=>rfl)) (aT bO (pv 0) aG (fun _ _=>rfl))) (bK _)))),?_⟩
  have bn:=jI (zO b0 b1)
  have dn:=jI (zO d0 d1)
  have an:=jI a1
  have cn:=jI c1
  exact ⟨_,rfl,p1,_,0,_,rfl,rfl,s1,rfl,_,rfl,p2,_,1,_,rfl,rfl,s2,rfl,a,d,rfl,rfl,⟨an,dn⟩,_,rfl,p2,_,0,_,rfl,rfl,s2,rfl,_,rfl,p1,_,1,_,rfl,rfl,s1,rfl,c,b,rfl,rfl,⟨cn,bn⟩,_,_,rfl,rfl,k⟩
theorem mX {b:Bool} {A:Prop} (e:b=false) (h:B):if b=true then A else B:=by subst e; exact gR h
theorem lX {b:Bool} {A:Prop} (e:b=true) (h:A):if b=true then A else B:=by subst e; exact hZ h
theorem pE (v:V):(!decide (v=v))=false:=by simp
def bA (x:Int×Int):PyData:=.tuple [.int x.1,.int x.2]
theorem bE {x:Int×Int}:Den K H (bA x) v↔∃ p,v=.ref p/\SqT K H p [.int x.1,.int x.2]:=by
 constructor
 ·intro h
  obtain ⟨p,xs,rfl,hp,hx⟩:=bB.mp h
  obtain ⟨x1,r1,rfl,d1,hr1⟩:=aH.mp hx
  obtain ⟨x2,r2,rfl,d2,hr2⟩:=aH.mp hr1
  rw [aL.mp hr2,bP.mp d1,bP.mp d2] at hp
  exact ⟨p,rfl,hp⟩
 ·rintro ⟨p,rfl,hp⟩
  exact bB.mpr ⟨p,_,rfl,hp,aH.mpr ⟨_,_,rfl,bP.mpr rfl,aH.mpr ⟨_,_,rfl,bP.mpr rfl,aL.mpr rfl⟩⟩⟩
def wY (x:Int×Int):Prop:=0 < x.2/\x.2 < 2^200/\x.1.natAbs < 2^200
theorem oE {x:Int×Int} (h:SqT K H p [.int x.1,.int x.2]) (o:wY x):Fra K H p x.1 x.2:=⟨h,o.1,o.2.1,o.2.2⟩
def jE (x y:Int×Int):Int×Int:=jC (x.1*y.2+y.1*x.2,x.2*y.2)
def eT (ps:List (Int×Int)):Int×Int:=ps.foldl jE (0,1)
theorem nH (ps:List (Int×Int)) (x:Int×Int):eT (ps++[x])=jE (eT ps) x:=by unfold eT; rw [List.foldl_append]; rfl
def tP (ps:List (Int×Int)):Prop:=(∀ x∈ps,wY x)/\∀ i,wY (eT (ps.take i))
theorem bH {l:List α} {i:Nat} {x:α} (h:l[i]?=some x):l.take (i+1)=l.take i++[x]:=by rw [Yy,h]; rfl
theorem aY {f:α->PyData} {ps:List α} (h:aN K H (ps.map f) vs) {i:Nat} (hv:vs[i]?=some v):∃ x,ps[i]?=some x/\Den K H (f x) v:=by
 obtain ⟨d,hd,hden⟩:=nB h hv
 rw [Qh] at hd
 obtain ⟨x,hx,rfl⟩:=Je.mp hd
 exact ⟨x,hx,hden⟩
def tQ (K:PySem.W.Frag):Sp:=fun vs H Q _=>∃ (q:Addr) (us:List V) (ps:List (Int×Int)),vs = [.ref q]/\SqT K H q us/\aN K H (ps.map bA) us/\tP ps/\∀ p H',aD H H'->SqT K H' p [.int (eT ps).1,.int (eT ps).2]->Q (.ref p) H'
theorem kA:FnScope ["some", "so_far", "one"] ["some"] (aI qD):=⟨rfl,rfl,rfl,by decide +kernel,rfl,by decide +kernel,by decide +kernel⟩
theorem aB6 (G:Fn K mg "total" qD ["some"] f fd) (GP:Fn K mg "plus" yX ["one", "other"] fP dP) (OP:FnOk P w K mg base CX0 3 fP dP ["one", "other"] (wX K)):FnOk P w K mg base CX0 4 f fd ["some"] (tQ K):=by
 refine G.fn.ok kA (fun vs H Q E h=>?_) (fun cdv A outer s H vs Q E hr h=>?_)
 ·obtain ⟨q,us,ps,rfl,_⟩:=h
  rfl
 ·obtain ⟨q,vs,ps,rfl,hq,hd,ok,k⟩:=h
  have r3:Room 3 _:=hr
  refine ⟨_,(aE (aS (i:=1) kA.nd rfl (Or.inl rfl) (bG (aA aG (aA aG aC))))
  (aE (cU PassesOwn.never rfl (gC (pv 0)) (aM (i:=2) kA.nd rfl (Or.inl rfl))
   (aJ (aS (i:=1) kA.nd rfl (Or.inl rfl) (bD GP OP r3 rfl (aA (pv 1) (aA (pv 2) aC))))))
  (aJ (aR (pv 1))))),?_⟩
  refine ⟨sz2 _ _,fun p0 h0=>?_⟩
  have s1:=aD.new (o:=.tup [.int 0,.int 1]) h0
  have e1:SqT K (upd H p0 (.tup [.int 0,.int 1])) p0 [.int (eT (ps.take 0)).1,.int (eT (ps.take 0)).2]:=SqT.of aB
  generalize upd H p0 (.tup [.int 0,.int 1])=H1 at s1 e1 ⊢
  refine ⟨_,rfl,q,rfl,⟨_,s1.seqT hq⟩,oJ (K:=K) (a:=q) (xs:=vs) (fun i σ H2=>∃ v p,σ = [some (.ref q),some (.ref p),v]/\aD H H2/\SqT K H2 p [.int (eT (ps.take i)).1,.int (eT (ps.take i)).2]) ⟨none,p0,rfl,s1,e1⟩ (fun i σ H2 _ ⟨_,_,_,s2,_⟩=>s2.seqT hq) ?_ ?_⟩
  ·rintro i x σ H2 hx ⟨v,p,rfl,s2,hp⟩
   obtain ⟨y,hy,hyd⟩:=aY hd hx
   obtain ⟨py,rfl,hpy⟩:=bE.mp hyd
   refine ⟨_,rfl,_,rfl,p,py,_,_,y.1,y.2,rfl,oE hp (ok.2 i),oE (s2.seqT hpy) (ok.1 y (Qe hy)),fun pn hpn=>?_⟩
   refine ⟨_,pn,rfl,s2.trans (aD.new hpn),?_⟩
   rw [bH hy,nH]
   exact SqT.of aB
  ·rintro σ H2 ⟨v,p,rfl,s2,hp⟩
   have hl:=aF hd
   rw [Qb] at hl
   rw [hl,Jh] at hp
   exact ⟨_,rfl,k p H2 s2 hp⟩
def tR (K:PySem.W.Frag):Sp:=fun vs H Q _=>∃ (q:Addr) (us:List V) (ps:List (Int×Int)),vs = [.ref q]/\SqL K H q us/\aN K H (ps.map bA) us/\tP ps/\∀ p H',aD H H'->SqT K H' p [.int (eT ps).1,.int (eT ps).2]->Q (.ref p) H'
theorem aB7 (G:Fn K mg "total" qD ["some"] f fd) (GP:Fn K mg "plus" yX ["one", "other"] fP dP) (OP:FnOk P w K mg base CX0 3 fP dP ["one", "other"] (wX K)):FnOk P w K mg base CX0 4 f fd ["some"] (tR K):=by
 refine G.fn.ok kA (fun vs H Q E h=>?_) (fun cdv A outer s H vs Q E hr h=>?_)
 ·obtain ⟨q,us,ps,rfl,_⟩:=h
  rfl
 ·obtain ⟨q,vs,ps,rfl,hq,hd,ok,k⟩:=h
  have r3:Room 3 _:=hr
  refine ⟨_,(aE (aS (i:=1) kA.nd rfl (Or.inl rfl) (bG (aA aG (aA aG aC))))
  (aE (cU PassesOwn.never rfl (cN (pv 0)) (aM (i:=2) kA.nd rfl (Or.inl rfl))
   (aJ (aS (i:=1) kA.nd rfl (Or.inl rfl) (bD GP OP r3 rfl (aA (pv 1) (aA (pv 2) aC))))))
  (aJ (aR (pv 1))))),?_⟩
  refine ⟨sz2 _ _,fun p0 h0=>?_⟩
  have s1:=aD.new (o:=.tup [.int 0,.int 1]) h0
  have e1:SqT K (upd H p0 (.tup [.int 0,.int 1])) p0 [.int (eT (ps.take 0)).1,.int (eT (ps.take 0)).2]:=SqT.of aB
  generalize upd H p0 (.tup [.int 0,.int 1])=H1 at s1 e1 ⊢
  refine ⟨_,rfl,q,rfl,⟨_,s1.seqL hq⟩,iB (K:=K) (a:=q) (xs:=vs) (fun i σ H2=>∃ v p,σ = [some (.ref q),some (.ref p),v]/\aD H H2/\SqT K H2 p [.int (eT (ps.take i)).1,.int (eT (ps.take i)).2]) ⟨none,p0,rfl,s1,e1⟩ (fun i σ H2 _ ⟨_,_,_,s2,_⟩=>s2.seqL hq) ?_ ?_⟩
  ·rintro i x σ H2 hx ⟨v,p,rfl,s2,hp⟩
   obtain ⟨y,hy,hyd⟩:=aY hd hx
   obtain ⟨py,rfl,hpy⟩:=bE.mp hyd
   refine ⟨_,rfl,_,rfl,p,py,_,_,y.1,y.2,rfl,oE hp (ok.2 i),oE (s2.seqT hpy) (ok.1 y (Qe hy)),fun pn hpn=>?_⟩
   refine ⟨_,pn,rfl,s2.trans (aD.new hpn),?_⟩
   rw [bH hy,nH]
   exact SqT.of aB
  ·rintro σ H2 ⟨v,p,rfl,s2,hp⟩
   have hl:=aF hd
   rw [Qb] at hl
   rw [hl,Jh] at hp
   exact ⟨_,rfl,k p H2 s2 hp⟩
theorem wZ:FnScope ["a", "b", "one", "other"] ["a", "b"] (aI aA3):=⟨rfl,rfl,rfl,by decide +kernel,rfl,by decide +kernel,by decide +kernel⟩
theorem aEB (G:Fn K mg "_law_alow" aA3 ["a", "b"] f fd):FnOk P w K mg base CX0 1 f fd ["a", "b"] iZ:=by
 refine G.fn.ok wZ (fun vs H Q E h=>?_) (fun cdv A outer s H vs Q E hr h=>?_)
 ·obtain ⟨a,b,rfl,_⟩:=h
  rfl
 ·obtain ⟨a,b,rfl,hb,hbb,k⟩:=h
  refine ⟨_,(aE (aS (i:=2) wZ.nd rfl (Or.inl rfl) (pv 0))
  (aE (aS (i:=3) wZ.nd rfl (Or.inl rfl) (pv 1))
  (aE (kI PassesOwn.never (bF mD (pv 3) aG (bK _))
   (aJ (aCu (i:=2) (j:=3) rfl wZ.nd rfl rfl (by decide) rfl rfl (aA (pv 3) (aA (aU nU (pv 2) (pv 3)) aC)) rfl)))
  (aJ (aR (bG (aA (aU mW (pv 0) (pv 2)) (aA (aU mW (pv 1) (pv 2)) aC)))))))),?_⟩
  refine ⟨_,rfl,_,rfl,fun m σ H1=>∃ x y:Int,σ = [some (.int a),some (.int b),some (.int x),some (.int y)]/\H1=H/\m=y.toNat/\0<=y/\Int.gcd x y=Int.gcd a b/\(y=0->0 < x),⟨_,a,b,rfl,rfl,rfl,by omega,rfl,by omega⟩,?_⟩
  rintro m σ H1 ⟨x,y,rfl,rfl,rfl,hy,hg,hx⟩
  refine ⟨_,rfl,_,_,rfl,rfl,_,rfl,?_⟩
  refine gD (fun c=>?_) (fun c=>?_)
  ·have hyp:0 < y:=of_decide_eq_true c
   refine ⟨fun σ H2=>∃ u v:Int,σ = [some (.int a),some (.int b),some (.int u),some (.int v)]/\H2=H1/\v.toNat < y.toNat/\0<=v/\Int.gcd u v=Int.gcd a b/\(v=0->0 < u),?_,?_⟩
   ·rintro σ' H' ⟨u,v,rfl,rfl,h1,h2,h3,h4⟩
    exact ⟨_,h1,u,v,rfl,rfl,rfl,h2,h3,h4⟩
   ·refine ⟨_,rfl,_,rfl,_,rfl,_,_,rfl,rfl,hyp,_,_,rfl,?_⟩
    have l1:=Yc x (show y≠0 by omega)
    have l2:=Zm x hyp
    exact ⟨y,x % y,rfl,rfl,by omega,l1,(zK x y).trans hg,fun _=>hyp⟩
  ·have hy0:y=0:=by have:¬ 0 < y:=fun z=>c (decide_eq_true z); omega
   subst hy0
   have hx':=hx rfl
   have e:x=(Int.gcd a b:Int):=by rw [<- hg,Int.gcd_zero]; omega
   have g1:=aG7 (by omega) (aDl (a:=a) hb hbb)
   rw [e]
   have g0:=nE (a:=a) hb
   exact ⟨_,rfl,_,rfl,_,_,rfl,rfl,⟨g0,g1⟩,_,rfl,_,rfl,_,_,rfl,rfl,⟨g0,g1⟩,sz2 _ _,fun p hp=>k p hp⟩
def tS (K:PySem.W.Frag):Sp:=fun vs H Q _=>∃ (q:Addr) (us:List V) (ps:List (Int×Int)),vs = [.ref q]/\SqL K H q us/\aN K H (ps.map bA) us/\tP ps/\∀ p H',aD H H'->SqT K H' p [.int (eT ps).1,.int (eT ps).2]->Q (.ref p) H'
theorem oF:FnScope ["some", "top", "below", "a", "b"] ["some"] (aI vI):=⟨rfl,rfl,rfl,by decide +kernel,rfl,by decide +kernel,by decide +kernel⟩
theorem aEC (G:Fn K mg "_law_asum" vI ["some"] f fd) (GLo:Fn K mg "_law_alow" aA3 ["a", "b"] fL dL) (OLo:FnOk P w K mg base CX0 1 fL dL ["a", "b"] iZ):FnOk P w K mg base CX0 2 f fd ["some"] (tS K):=by
 refine G.fn.ok oF (fun vs H Q E h=>?_) (fun cdv A outer s H vs Q E hr h=>?_)
 ·obtain ⟨q,us,ps,rfl,_⟩:=h
  rfl
 ·obtain ⟨q,vs,ps,rfl,hq,hd,ok,k⟩:=h
  have r1:Room 1 _:=hr
  refine ⟨_,(aE (aS (i:=1) oF.nd rfl (Or.inl rfl) aG)
  (aE (aS (i:=2) oF.nd rfl (Or.inl rfl) aG)
  (aE (cU PassesOwn.never rfl (cN (pv 0)) (kE rfl (aX (aM (i:=3) oF.nd rfl (Or.inl rfl)) (aX (aM (i:=4) oF.nd rfl (Or.inl rfl)) dQ)))
   (aJ (lD (bD GLo OLo r1 rfl (aA (aU eJ (aU cY (pv 1) (pv 4)) (aU cY (pv 3) (pv 2))) (aA (aU cY (pv 2) (pv 4)) aC))) (kE rfl (aX (aM (i:=1) oF.nd rfl (Or.inl rfl)) (aX (aM (i:=2) oF.nd rfl (Or.inl rfl)) dQ))))))
  (aJ (aR (bG (aA (pv 1) (aA (pv 2) aC)))))))),?_⟩
  refine ⟨_,rfl,q,rfl,⟨_,hq⟩,iB (K:=K) (a:=q) (xs:=vs) (fun i σ H2=>∃ v w,σ = [some (.ref q),some (.int (eT (ps.take i)).1),some (.int (eT (ps.take i)).2),v,w]/\aD H H2) ⟨none,none,rfl,aD.refl H⟩ (fun i σ H2 _ ⟨_,_,_,s2⟩=>s2.seqL hq) ?_ ?_⟩
  ·rintro i x σ H2 hx ⟨v,w,rfl,s2⟩
   obtain ⟨y,hy,hyd⟩:=aY hd hx
   obtain ⟨py,rfl,hpy⟩:=bE.mp hyd
   refine ⟨py,_,rfl,s2.seqT hpy,rfl,_,_,rfl,_,_,rfl,rfl,?_⟩
   have o1:=ok.2 i
   have o2:=ok.1 y (Qe hy)
   obtain ⟨m1,m2⟩:=aFj o1.1 o2.1 o1.2.1 o2.2.1
   have c1:=jI o1.2.2
   have c2:=jI (zO o1.1 o1.2.1)
   have c3:=jI o2.2.2
   have c4:=jI (zO o2.1 o2.2.1)
   refine ⟨_,rfl,_,rfl,_,_,rfl,rfl,⟨c1,c4⟩,_,rfl,_,rfl,_,_,rfl,rfl,⟨c3,c2⟩,_,_,rfl,rfl,_,rfl,_,rfl,_,_,rfl,rfl,⟨c2,c4⟩,_,_,rfl,m1,m2,fun pn hpn=>?_⟩
   refine ⟨pn,_,rfl,SqT.of aB,rfl,_,_,rfl,_,_,rfl,rfl,?_⟩
   rw [bH hy,nH]
   exact ⟨_,_,rfl,s2.trans (aD.new hpn)⟩
  ·rintro σ H2 ⟨v,w,rfl,s2⟩
   have hl:=aF hd
   rw [Qb] at hl
   rw [hl,Jh]
   exact ⟨_,rfl,_,rfl,sz2 _ _,fun p hp=>k p _ (s2.trans (aD.new hp)) (SqT.of aB)⟩
def tT (K:PySem.W.Frag):Sp:=fun vs H Q _=>∃ (p1 p2:Addr) (a b c d:Int),vs = [.ref p1,.ref p2]/\Fra K H p1 a b/\Fra K H p2 c d/\Q (.bl (decide (a*d<=c*b))) H
theorem aB8:FnScope ["one", "other"] ["one", "other"] (aI oW):=⟨rfl,rfl,rfl,by decide +kernel,rfl,by decide +kernel,by decide +kernel⟩
theorem aB9 (G:Fn K mg "_law_ano_more" oW ["one", "other"] f fd):FnOk P w K mg base CX0 1 f fd ["one", "other"] (tT K):=by
 refine G.fn.ok aB8 (fun vs H Q E h=>?_) (fun cdv A outer s H vs Q E hr h=>?_)
 ·obtain ⟨p1,p2,a,b,c,d,rfl,_⟩:=h
  rfl
 ·obtain ⟨p1,p2,a,b,c,d,rfl,⟨s1,b0,b1,a1⟩,⟨s2,d0,d1,c1⟩,k⟩:=h
  refine ⟨_,(aJ (aR (gB uV (aU cY (aT bO (pv 0) aG (fun _ _=>rfl)) (aT bO (pv 1) aG (fun _ _=>rfl))) (aU cY (aT bO (pv 1) aG (fun _ _=>rfl)) (aT bO (pv 0) aG (fun _ _=>rfl))) (bK _)))),?_⟩
  have bn:=jI (zO b0 b1)
  have dn:=jI (zO d0 d1)
  have an:=jI a1
  have cn:=jI c1
  exact ⟨_,rfl,p1,_,0,_,rfl,rfl,s1,rfl,_,rfl,p2,_,1,_,rfl,rfl,s2,rfl,a,d,rfl,rfl,⟨an,dn⟩,_,rfl,p2,_,0,_,rfl,rfl,s2,rfl,_,rfl,p1,_,1,_,rfl,rfl,s1,rfl,c,b,rfl,rfl,⟨cn,bn⟩,_,_,rfl,rfl,k⟩
theorem vO:∀ {ds:List PyData} {zs:List V},zs.length=ds.length->(∀ (i:Nat) d z,ds[i]?=some d->zs[i]?=some z->Den K H d z)->aN K H ds zs
 | [],[],_,_=>aL.mpr rfl
 | [],_::_,h,_=>by cases h
 | _::_,[],h,_=>by cases h
 | d::ds,z::zs,hl,h=>aH.mpr ⟨z,zs,rfl,h 0 d z rfl rfl,vO (by simpa using hl) fun i d' z' h1 h2=>h (i+1) d' z' h1 h2⟩
def zP (s:List Int) (g:Int):PyData:=.tuple [eV s,.int g]
theorem tU {s:List Int} {g:Int} (h:Den K H (zP s g) v):∃ p q,v=.ref p/\SqT K H p [.ref q,.int g]/\SqT K H q (s.map V.int):=by
 obtain ⟨p,xs,rfl,hp,hx⟩:=bB.mp h
 obtain ⟨x1,r1,rfl,d1,hr1⟩:=aH.mp hx
 obtain ⟨x2,r2,rfl,d2,hr2⟩:=aH.mp hr1
 rw [aL.mp hr2] at hp
 obtain ⟨q,rfl,hq⟩:=bV.mp d1
 rw [bP.mp d2] at hp
 exact ⟨p,q,rfl,hp,hq⟩
theorem qK {s:List Int} {g:Int} {q:Addr} (h1:SqT K H p [.ref q,.int g]) (h2:SqT K H q (s.map V.int)):Den K H (zP s g) (.ref p) :=
 bB.mpr ⟨p,_,rfl,h1,aH.mpr ⟨_,_,rfl,bV.mpr ⟨q,rfl,h2⟩,aH.mpr ⟨_,_,rfl,bP.mpr rfl,aL.mpr rfl⟩⟩⟩
theorem zQ (s:List Int) (g:Int):eS (zP s g)=true:=by
 unfold zP eS eG
 rw [iW]
 unfold eG eS eG
 rfl
theorem aBe:bootBuiltins "any" = some (.builtin "any"):=by decide +kernel
theorem xA {l:Expr} (hK:X.K=K) (hl:PE X l tl):PI X tg l (aGy K tl):=by subst hK; exact gC hl
theorem aDm {u:HO} (e:aD H H') (h:H a=none):aD H (upd H' a u):=fun b o q=>by
 rw [aK (fun z=>by rw [z,h] at q; cases q)]
 exact e b o q
def tV (ws:List (List Int)) (wt:List Int):Prop:=wt.length=ws.length/\∀ w∈wt,0<=w/\w<=99
theorem aG8 (h:SqT K H p (l.map V.int)):Den K H (.tuple (l.map .int)) (.ref p):=bV.mpr ⟨p,rfl,h⟩
theorem aF9 {i:Nat} {b:Bool} (h:((List.replicate n b).map V.bl)[i]?=some v):v=.bl b:=by
 rw [Qh] at h
 obtain ⟨c,hc,rfl⟩:=Je.mp h
 rw [Zz (Qe hc)]
theorem aBf (i:Int) (l:List Int):inV (.int i) (l.map V.int)=decide (i∈l):=by
 rw [aEr,Xf,Jq,decide_eq_true_iff]
 exact ⟨fun ⟨y, h1, h2⟩ => by have : y = i := by simpa using h2
                              rw [<- this]; exact h1,fun h=>⟨i,h,by simp⟩⟩
theorem xB (hs:List Int):(fQ hs).length=2^hs.length:=by rw [gU,Jn,aBZ]
theorem tW (hs:List Int):∀ s∈fQ hs,s.length<=hs.length:=fun s h=>by
 rw [gU] at h
 rcases Qj.mp h with rfl | h
 ·exact Jj _
 ·exact rA hs s h
theorem aED (h:m<=n):2^m<=2^n:=Zt (by decide) h
def xC (K:PySem.W.Frag):Sp:=fun vs H Q _=>∃ (x:V) (n:Int) (ws:List (List Int)) (wp:Addr) (wt:List Int),vs = [x,.ref wp]/\Den K H (eM n ws) x/\eK (eM n ws)=true/\SqT K H wp (wt.map V.int)/\tV ws wt/\∀ H',aD H H'->Q (.bl true) H'
theorem aEE:FnScope ["book", "thing"] ["book", "thing"] (aI tF):=⟨rfl,rfl,rfl,by decide +kernel,rfl,by decide +kernel,by decide +kernel⟩
theorem aDn (G:Fn K mg "are_weights" tF ["book", "thing"] f fd) (B:Bl mg) (R:Pr K mg fW fH fK fB fNB dW dH dK dB dNB):FnOk P w K mg base CX0 5 f fd ["book", "thing"] (xC K):=by
 have OW:FnOk P w K mg base CX0 1 fW dW ["thing"] (jZ K):=oY R.W B
 have ONB:FnOk P w K mg base CX0 4 fNB dNB ["book"] (aA8 K):=aC8 B R
 obtain ⟨tmw,hmw⟩:=B.mw
 refine G.fn.ok aEE (fun vs H Q E h=>?_) (fun cdv A outer s H vs Q E hr h=>?_)
 ·obtain ⟨x,n,ws,wp,wt,rfl,_⟩:=h
  rfl
 ·obtain ⟨x,n,ws,wp,wt,rfl,hx,hbk,hw,hwt,k⟩:=h
  have r1:Room 1 _:=hr.mono (by decide)
  have r4:Room 4 _:=hr
  refine ⟨_,(aE (gM (bD R.NB ONB r4 rfl (aA (pv 0) aC)))
  (aE (cX (PW.pt (iS (dJ (cL (aQ cQ rfl B.isinstance jR (aA (pv 1) (aA (eW (v:=.ty "tuple") rfl B.tuple dY rfl) aC))))) (jA (bF mC (aQ aV rfl B.len fJ (aA (pv 1) aC)) (aQ aV rfl B.len fJ (aA (aT bO (pv 0) aG (fun _ _=>rfl)) aC)) (bK _)))))
   (aJ (aR dG))
   bM)
  (aJ (aR (aQ (kM rfl) rfl B.all vH (aA (cF (own:=["weight"]) (fr:=[]) (frn:=[]) (aW (aI tF) ["book", "thing"] rfl rfl (by decide +kernel)) rfl (gC (pv 1))
    (fun _ _ _ _=>(aM (i:=0) (show (["weight"]:List Str).Nodup by decide +kernel) rfl (Or.inl rfl))) (fun _ _ _ _=>cJ)
    (fun _ _ _ _=>(lC (bD R.W OW r1 rfl (aA (pv 0) aC)) (lZ (xX uV uV aG (pv 0) (mY (v:=.int 99) rfl hmw ⟨tmw,rfl⟩)))))) aC)))))),?_⟩
  refine ⟨_,rfl,x,_,rfl,hx,hbk,fun H1 s1=>?_⟩
  have hw1:=s1.seqT hw
  obtain ⟨c,b,ys,e,hc,hb1,hys1⟩:=fM (s1.den _ _ hx)
  cases e
  have hly:=aF hys1
  rw [Qb] at hly
  obtain ⟨_,_,h12,_⟩:=cC hbk
  refine ⟨_,rfl,.ref wp,.tup,rfl,(aG8 hw1).kd,_,rfl,?_⟩
  refine gR ?_
  refine ⟨_,rfl,wp,_,rfl,.inr hw1,_,rfl,c,_,1,.ref b,rfl,rfl,hc,rfl,b,ys,rfl,.inr hb1,rfl,_,rfl,?_⟩
  refine mX (by rw [Qb,hwt.1,hly]; exact pE _) ?_
  refine ⟨_,rfl,wp,rfl,⟨_,hw1⟩,iV (K:=K) (a:=wp) (xs:=wt.map V.int) (vs:=(List.replicate wt.length true).map V.bl) (fun σ=>∃ v,σ = [v]) (by rw [Qb,hwt.1]; omega) (by simp) hw1 ⟨none,rfl⟩ ?_ ?_⟩
  ·rintro i u v σ H2 hu hv ⟨v0,rfl⟩ s2 Q' k'
   rw [aF9 hv] at k'
   obtain ⟨z,hz,rfl⟩:=Qz.mp (Qe hu)
   have:=hwt.2 z hz
   refine ⟨_,rfl,.int z,.int z,rfl,bP.mpr rfl,_,rfl,hZ ?_⟩
   refine ⟨_,rfl,_,_,rfl,rfl,_,rfl,lX (decide_eq_true this.1) ⟨_,_,rfl,rfl,?_⟩⟩
   show Q' (.bl (decide (z<=99))) _ _
   rw [decide_eq_true this.2]
   exact k' _ _ ⟨_,rfl⟩ (aD.refl _)
  ·intro H3 s3 p hp
   refine ⟨p,List.replicate wt.length true,rfl,SqL.of aB,?_⟩
   rw [show (List.replicate wt.length true).all id=true by simp]
   exact k _ (s1.trans (s3.trans (aD.new hp)))
def pF (K:PySem.W.Frag):Sp:=fun vs H Q _=>∃ (x:V) (n:Int) (ws:List (List Int)) (wp:Addr) (wt:List Int),vs = [x,.ref wp]/\Den K H (eM n ws) x/\eK (eM n ws)=true/\SqT K H wp (wt.map V.int)/\tV ws wt/\∀ H',aD H H'->Q .non H'
theorem aDo:FnScope ["book", "weights"] ["book", "weights"] (aI oT):=⟨rfl,rfl,rfl,by decide +kernel,rfl,by decide +kernel,by decide +kernel⟩
theorem aCa (G:Fn K mg "need_weights" oT ["book", "weights"] f fd) (GAW:Fn K mg "are_weights" tF ["book", "thing"] fA dA) (OAW:FnOk P w K mg base CX0 5 fA dA ["book", "thing"] (xC K)):FnOk P w K mg base CX0 6 f fd ["book", "weights"] (pF K):=by
 refine G.fn.ok aDo (fun vs H Q E h=>?_) (fun cdv A outer s H vs Q E hr h=>?_)
 ·obtain ⟨x,n,ws,wp,wt,rfl,_⟩:=h
  rfl
 ·obtain ⟨x,n,ws,wp,wt,rfl,hx,hbk,hw,hwt,k⟩:=h
  have r5:Room 5 _:=hr
  refine ⟨_,(aJ (cX (dJ (cL (bD GAW OAW r5 rfl (aA (pv 0) (aA (pv 1) aC)))))
   uT
   bM)),?_⟩
  exact ⟨_,rfl,_,rfl,x,n,ws,wp,wt,rfl,hx,hbk,hw,hwt,fun H1 s1=>⟨_,rfl,gR (k _ s1)⟩⟩
def pG (K:PySem.W.Frag):Sp:=fun vs H Q _=>∃ (p q:Addr) (l s:List Int),vs = [.ref p,.ref q]/\SqT K H p (l.map V.int)/\SqT K H q (s.map V.int)/\l.length<=1000/\∀ H',aD H H'->Q (.bl (lN s l)) H'
theorem aDp:FnScope ["able", "some"] ["able", "some"] (aI nD):=⟨rfl,rfl,rfl,by decide +kernel,rfl,by decide +kernel,by decide +kernel⟩
theorem aCb (G:Fn K mg "is_within" nD ["able", "some"] f fd) (B:Bl mg):FnOk P w K mg base CX0 1 f fd ["able", "some"] (pG K):=by
 refine G.fn.ok aDp (fun vs H Q E h=>?_) (fun cdv A outer s H vs Q E hr h=>?_)
 ·obtain ⟨p,q,l,s,rfl,_⟩:=h
  rfl
 ·obtain ⟨p,q,l,s',rfl,hp,hq,hl,k⟩:=h
  refine ⟨_,(aJ (aR (aQ (kM rfl) rfl B.all vH (aA (cF (own:=["hand"]) (fr:=[1]) (frn:=["some"]) (aW (aI nD) ["able", "some"] rfl rfl (by decide +kernel)) rfl (gC (pv 0))
    (fun _ _ _ _=>(aM (i:=0) (show (["hand", "some"]:List Str).Nodup by decide +kernel) rfl (Or.inl rfl))) (fun _ _ _ _=>cJ)
    (fun _ _ _ _=>(gB (aAl (K:=K) rfl) (pv 0) (pv 1) (by with_unfolding_all rfl)))) aC)))),?_⟩
  refine ⟨_,rfl,p,rfl,⟨_,hp⟩,iV (K:=K) (a:=p) (xs:=l.map V.int) (vs:=(l.map fun h=>decide (h∈s')).map V.bl) (fun σ=>∃ v,σ = [v,some (.ref q)]) (by rw [Qb]; exact hl) (by simp) hp ⟨none,rfl⟩ ?_ ?_⟩
  ·rintro i u v σ H2 hu hv ⟨v0,rfl⟩ s2 Q' k'
   rw [Qh] at hu hv
   obtain ⟨z,hz,rfl⟩:=Je.mp hu
   rw [Qh,hz] at hv
   cases hv
   refine ⟨_,rfl,_,rfl,q,s'.map V.int,rfl,.inr (s2.seqT hq),rfl,jL _,?_⟩
   have e:inV (.int z) (s'.map V.int)=decide (z∈s'):=aBf z s'
   show Q' (.bl (inV (.int z) (s'.map V.int))) _ _
   rw [e]
   exact k' _ _ ⟨_,rfl⟩ (aD.refl _)
  ·intro H3 s3 p2 hp2
   refine ⟨p2,_,rfl,SqL.of aB,?_⟩
   rw [show (l.map fun h=>decide (h∈s')).all id=lN s' l by unfold lN; rw [Ys]; rfl]
   exact k _ (s3.trans (aD.new hp2))
def aAr (K:PySem.W.Frag):Sp:=fun vs H Q _=>∃ (l:Addr) (hs:List Int),vs = [.ref l]/\SqL K H l (hs.map V.int)/\hs.length<=6/\∀ p xs H',aD H H'->H p=none->H' p=some (.lst xs)->aN K H' ((iY hs).map eV) xs->Q (.ref p) H'
theorem xD:FnScope ["hands", "sets", "hand"] ["hands"] (aI yY):=⟨rfl,rfl,rfl,by decide +kernel,rfl,by decide +kernel,by decide +kernel⟩
theorem aEF (G:Fn K mg "sets_of" yY ["hands"] f fd) (B:Bl mg):FnOk P w K mg base CX0 1 f fd ["hands"] (aAr K):=by
 refine G.fn.ok xD (fun vs H Q E h=>?_) (fun cdv A outer s H vs Q E hr h=>?_)
 ·obtain ⟨l,hs,rfl,_⟩:=h
  rfl
 ·obtain ⟨l,hs,rfl,hl,h6,k⟩:=h
  refine ⟨_,(aE (aS (i:=1) xD.nd rfl (Or.inl rfl) (cI (aA (bG aC) aC)))
  (aE (cU PassesOwn.never rfl (cN (pv 0)) (aM (i:=2) xD.nd rfl (Or.inr rfl))
   (aJ (aS (i:=1) xD.nd rfl (Or.inl rfl) (aU hG (pv 1) (cF (own:=["some"]) (fr:=[2]) (frn:=["hand"]) (aW (aI yY) ["hands", "sets", "hand"] rfl rfl (by decide +kernel)) rfl (cN (pv 1))
    (fun _ _ _ _=>(aM (i:=0) (show (["some", "hand"]:List Str).Nodup by decide +kernel) rfl (Or.inl rfl))) (fun _ _ _ _=>cJ)
    (fun _ _ _ _=>(aU (kN (K:=K) rfl) (pv 0) (bG (aA (pv 1) aC)))))))))
  (aJ (aR (cP aAP (pv 1) (dX aG) eO))))),?_⟩
  refine ⟨cA (Jj _),fun p0 h0=>⟨sz1 _,fun p1 h1=>?_⟩⟩
  have s1:=(aD.new (o:=.tup []) h0).trans (aD.new (o:=.lst [.ref p0]) h1)
  have n1:H p1=none:=(aD.new (o:=.tup []) h0).free h1
  have e1:upd (upd H p0 (.tup [])) p1 (.lst [.ref p0]) p1=some (.lst [.ref p0]):=aB
  have d1:aN K (upd (upd H p0 (.tup [])) p1 (.lst [.ref p0])) ((fQ (hs.take 0)).map eV) [.ref p0]:=aH.mpr ⟨_,_,rfl,bV.mpr ⟨p0,rfl,(aD.new h1).seqT (SqT.of aB)⟩,aL.mpr rfl⟩
  generalize upd (upd H p0 (.tup [])) p1 (.lst [.ref p0])=H1 at s1 e1 d1 ⊢
  refine ⟨_,rfl,l,rfl,⟨_,s1.seqL hl⟩,iB (K:=K) (a:=l) (xs:=hs.map V.int) (fun i σ H2=>∃ q xs v,σ = [some (.ref l),some (.ref q),v]/\aD H H2/\H q=none/\H2 q=some (.lst xs)/\aN K H2 ((fQ (hs.take i)).map eV) xs) ⟨p1,_,none,rfl,s1,n1,e1,d1⟩ (fun i σ H2 _ ⟨_,_,_,_,s2,_⟩=>s2.seqL hl) ?_ ?_⟩
  ·rintro i y σ H2 hy ⟨q,xs,v,rfl,s2,nq,hq,hd⟩
   rw [Qh] at hy
   obtain ⟨h,hh,rfl⟩:=Je.mp hy
   have hi:i < hs.length:=(Qd.mp hh).1
   have hxl:xs.length=2^i:=by
    rw [aF hd,Qb,xB,Ja,Nat.min_eq_left (by omega)]
   have hx32:xs.length<=32:=by rw [hxl]; exact aED (n:=5) (by omega)
   refine ⟨_,rfl,_,rfl,q,rfl,⟨_,SqL.of hq⟩,gN (K:=K) (a:=q) (xs:=xs) (fun σ=>∃ v,σ = [v,some (.int h)]) (fun j ys H3=>aD H2 H3/\aN K H3 (((fQ (hs.take i)).take j).map fun t=>eV (t++[h])) ys) (cA (by omega)) ⟨none,rfl⟩ ⟨aD.refl _,aL.mpr rfl⟩ ?_ (fun j ys H3 ⟨s3,_⟩=>s3.seqL (SqL.of hq)) ?_ ?_⟩
   ·rintro j ys H3 ⟨_,hd3⟩
    rw [aF hd3,Qb,Ja]
    exact Jv _ _
   ·rintro j ys σ x H3 hx ⟨v0,rfl⟩ ⟨s3,hd3⟩ hz
    obtain ⟨d,hd1,hd2⟩:=nB (s3.denAll _ _ hd) hx
    rw [Qh] at hd1
    obtain ⟨t,ht,rfl⟩:=Je.mp hd1
    obtain ⟨a,rfl,ha⟩:=bV.mp hd2
    have ht5:t.length<=i:=by
     have:=tW _ t (Qe ht)
     rw [Ja] at this
     omega
    refine ⟨_,rfl,_,rfl,sz1 _,fun pt hpt=>⟨a,pt,_,_,rfl,rfl,(aD.new hpt).seqT ha,SqT.of aB,cA (by rw [Qb]; show _+1<=_; omega),fun pc H4 s4 hpc=>?_⟩⟩
    have s34:=(aD.new (o:=.tup [.int h]) hpt).trans s4
    refine ⟨hz,⟨_,rfl⟩,s3.trans s34,?_⟩
    rw [Yy,ht,Qr]
    refine aZ (s34.denAll _ _ hd3) (aH.mpr ⟨_,_,rfl,bV.mpr ⟨pc,rfl,?_⟩,aL.mpr rfl⟩)
    rw [Qr]
    exact hpc
   ·rintro ys H3 ⟨s3,hd3⟩ pn hpn
    have hyl:ys.length<=32:=by
     rw [aF hd3,Qb,Ja]
     omega
    refine ⟨q,pn,xs,ys,rfl,rfl,(s3.trans (aD.new hpn)) _ _ hq,aB,cA (by omega),fun pr hpr=>?_⟩
    have s35:=s3.trans ((aD.new (o:=.lst ys) hpn).trans (aD.new (o:=.lst (xs++ys)) hpr))
    refine ⟨pr,xs++ys,_,rfl,s2.trans s35,(s2.trans (s3.trans (aD.new hpn))).free hpr,aB,?_⟩
    rw [Yy,hh,show (some h).toList = [h] from rfl,kF,Qr,Zb]
    refine aZ (s35.denAll _ _ hd) ?_
    have e:xs.length=(fQ (hs.take i)).length:=by rw [aF hd,Qb]
    rw [e,Jh] at hd3
    exact ((aD.new hpn).trans (aD.new hpr)).denAll _ _ hd3
  ·rintro σ H2 ⟨q,xs,v,rfl,s2,nq,hq,hd⟩
   refine ⟨_,rfl,_,rfl,q,xs,rfl,SqL.of hq,fun pr hpr=>?_⟩
   have e:nV xs (some 1) none=xs.drop 1:=aBJ xs 1
   rw [e]
   rw [Qb,Jh,gU,Jk] at hd
   obtain ⟨x,r,rfl,_,hr2⟩:=aH.mp hd
   exact k pr _ _ (s2.trans (aD.new hpr)) (s2.free hpr) aB ((aD.new hpr).denAll _ _ hr2)
def aFk (K:PySem.W.Frag):Sp:=fun vs H Q _=>∃ (t a:Addr) (ns:List Int) (m:Nat),vs = [.ref t,.int m]/\iX K H t a ns/\m<=12/\∀ (wt:List Int) p H',wt.length=m->(∀ w∈wt,0<=w/\w<=99)->But t H H'->iX K H' t a ns->SqT K H' p (wt.map V.int)->Q (.ref p) H'
theorem aFl:FnScope ["tape", "many", "way"] ["tape", "many"] (aI aC3):=⟨rfl,rfl,rfl,by decide +kernel,rfl,by decide +kernel,by decide +kernel⟩
theorem aGa {fD:Addr} {dD:FuncData} (G:Fn K mg "_law_aweights" aC3 ["tape", "many"] f fd) (B:Bl mg) (GD:Fn K mg "_law_adigit" oV ["tape", "many"] fD dD) (OD:FnOk P w K mg base CX0 1 fD dD ["tape", "many"] (rO K)):FnOk P w K mg base CX0 2 f fd ["tape", "many"] (aFk K):=by
 refine G.fn.ok aFl (fun vs H Q E h=>?_) (fun cdv A outer s H vs Q E hr h=>?_)
 ·obtain ⟨t,a,ns,m,rfl,_⟩:=h
  rfl
 ·obtain ⟨t,a,ns,m,rfl,hT,hm,k⟩:=h
  have r1:Room 1 _:=hr
  refine ⟨_,(aE (aS (i:=2) aFl.nd rfl (Or.inr rfl) (bD GD OD r1 rfl (aA (pv 0) (aA aG aC))))
  (aE (cX (bF xV (pv 2) aG (bK _))
   (aJ (aR (aU (aAY (K:=K) rfl) (bG (aA aG aC)) (pv 1))))
   bM)
  (aJ (aR (cE fX rfl B.tuple dY (aA (cF (own:=["k"]) (fr:=[0,2]) (frn:=["tape", "way"]) (aW (aI aC3) ["tape", "many", "way"] rfl rfl (by decide +kernel)) rfl (cT rfl B.range (aA (pv 1) aC))
    (fun _ _ _ _=>(aM (i:=0) (show (["k", "tape", "way"]:List Str).Nodup by decide +kernel) rfl (Or.inl rfl))) (fun _ _ _ _=>cJ)
    (fun _ _ _ _=>(bD GD OD r1 rfl (aA (pv 1) (aA (aT (mK (K:=K) rfl) (cI (aA aG (aA aG (aA aG aC)))) (aU vV (pv 2) aG) (fun _ _=>rfl)) aC))))) aC)))))),?_⟩
  refine ⟨_,rfl,t,a,ns,4,rfl,hT,by decide,by decide,fun wy H1 hw0 hw1 b1 T1=>?_⟩
  dsimp only [cH]
  refine ⟨_,rfl,rfl,_,rfl,?_⟩
  refine gD (fun c0=>?_) (fun c0=>?_)
  ·refine ⟨sz1 _,fun p0 h0=>⟨_,rfl,p0,m,_,rfl,rfl,SqT.of aB,by omega,by show 1<=1000; decide,fun q H2 s2 hq=>?_⟩⟩
   have s3:=(aD.new (o:=.tup [.int 1]) h0).trans s2
   refine k (List.replicate m 1) q H2 (by simp) (fun w hw=>by rw [Zz hw]; decide) (b1.trans (But.of s3)) (T1.same s3) ?_
   have e:∀ m:Nat,(List.replicate m [V.int 1]).flatten=(List.replicate m (1:Int)).map V.int:=fun m=>by
    induction m with
    | zero=>rfl
    | succ m ih=>rw [Xi,Xx,ih,Xi]; rfl
   rw [<- e m]
   exact hq
  ·have hw3:1<=wy:=by
    by_cases z:wy=0
    ·exact absurd (by rw [z]; rfl) c0
    ·omega
   refine ⟨_,rfl,m,rfl,by omega,by omega,eY (lo:=0) (n:=((m:Int)).toNat) (fun σ=>∃ v,σ = [v,some (.ref t),some (.int wy)]) (fun i ys H2=>∃ l:List Int,ys=l.map V.int/\l.length=i/\(∀ w∈l,0<=w/\w<=99)/\But t H1 H2/\iX K H2 t a ns) (cA (by omega)) ⟨none,rfl⟩ ⟨[],rfl,rfl,fun _ h=>(Qq h).elim,But.refl _ _,T1⟩ ?_ ?_ ?_⟩
   ·rintro i ys H2 ⟨l,rfl,hl,_⟩
    rw [Qb,hl]; exact Qg _
   ·rintro i ys σ H2 hi ⟨v,rfl⟩ ⟨l,rfl,hl,hl2,b2,T2⟩ hz
    refine ⟨_,rfl,cA (show 3<=1000 by decide),fun lp hlp=>?_⟩
    obtain ⟨M,hM,hM0,hM1⟩:∃ M:Int,atI [V.int 3,V.int 10,V.int 100] (wy - 1)=some (.int M)/\0 < M/\M<=100:=by
     have:wy=1∨wy=2∨wy=3:=by omega
     rcases this with rfl | rfl | rfl
     ·exact ⟨3,rfl,by decide,by decide⟩
     ·exact ⟨10,rfl,by decide,by decide⟩
     ·exact ⟨100,rfl,by decide,by decide⟩
    have s3:=aD.new (o:=.lst [V.int 3,V.int 10,V.int 100]) hlp
    refine ⟨_,rfl,_,_,rfl,rfl,lp,_,_,_,rfl,rfl,SqL.of aB,hM,t,a,ns,M,rfl,T2.same s3,hM0,by omega,fun r H4 hr0 hr1 b4 T4=>?_⟩
    refine ⟨hz,⟨_,rfl⟩,l++[r],by simp,by simp [hl],fun w hw=>?_,b2.trans ((But.of s3).trans b4),T4⟩
    rcases Jg.mp hw with hw | hw
    ·exact hl2 w hw
    ·rw [Qi.mp hw]; omega
   ·rintro ys H2 ⟨l,rfl,hl,hl2,b2,T2⟩ lp hlp
    refine ⟨lp,_,rfl,.inl ⟨SqL.of aB,fun q hq=>?_⟩⟩
    have s3:=(aD.new (o:=.lst (l.map V.int)) hlp).trans (aD.new (o:=.tup (l.map V.int)) hq)
    exact k l q _ (by omega) hl2 (b1.trans (b2.trans (But.of s3))) (T2.same s3) (SqT.of aB)
def pD (r:List Int×Int):PyData:=zP r.1 r.2
theorem aDq (rows:cW) (s:List Int):wIn rows (inS s)=aO ((rows.filter fun r=>lN s r.1).map (·.2)):=wW _ (fun r:List Int×Int=>r.1.all (inS s)) rows
def RwS (rows:cW):Prop:=∀ r∈rows,r.1.length<=6/\0<=r.2/\r.2<=99
theorem aDr (h:RwS rows) (p:Int->Bool):0<=wIn rows p/\wIn rows p<=rows.length*99:=by
 refine ⟨oZ fun r hr=>?_,?_⟩
 ·have:=h r hr
  by_cases c:r.1.all p=true
  ·rw [if_pos c]; omega
  ·rw [if_neg c]; exact Xb _
 ·rw [<- nF (f:=fun _:List Int×Int=>(99:Int)) (l:=rows) fun _ _=>rfl]
  refine mR fun r hr=>?_
  have:=h r hr
  by_cases c:r.1.all p=true
  ·rw [if_pos c]; omega
  ·rw [if_neg c]; omega
theorem jJ {i:Int} (h:i.natAbs<=1000000):i.natAbs < 2^4000:=Ql (Jy h (show 1000000 < 2^20 by decide)) (Zt (by decide) (by decide))
def aAs (K:PySem.W.Frag):Sp:=fun vs H Q _=>∃ (lp rp:Addr) (hs:List Int) (zs:List V) (rows:cW),vs = [.ref lp,.ref rp]/\SqL K H lp (hs.map V.int)/\SqL K H rp zs/\aN K H (rows.map pD) zs/\hs.length<=6/\rows.length<=12/\RwS rows /\
 ∀ p q b m H',aD H H'->SqT K H' p [.ref q,.int m]->SqT K H' q (b.map V.int)->oC rows (iY hs) b m->Q (.ref p) H'
theorem gJ:FnScope ["hands", "rows", "best", "most", "some", "weight", "more"] ["hands", "rows"] (aI kR):=⟨rfl,rfl,rfl,by decide +kernel,rfl,by decide +kernel,by decide +kernel⟩
theorem aEG (G:Fn K mg "heaviest" kR ["hands", "rows"] f fd) (B:Bl mg) (GSt:Fn K mg "sets_of" yY ["hands"] fS dS) (OSt:FnOk P w K mg base CX0 1 fS dS ["hands"] (aAr K)) (GWi:Fn K mg "is_within" nD ["able", "some"] fI dI) (OWi:FnOk P w K mg base CX0 1 fI dI ["able", "some"] (pG K)):FnOk P w K mg base CX0 2 f fd ["hands", "rows"] (aAs K):=by
 refine G.fn.ok gJ (fun vs H Q E h=>?_) (fun cdv A outer s H vs Q E hr h=>?_)
 ·obtain ⟨lp,rp,hs,zs,rows,rfl,_⟩:=h
  rfl
 ·obtain ⟨lp,rp,hs,zs,rows,rfl,hlp,hrp,hd,h6,h12,hrw,k⟩:=h
  have r1:Room 1 _:=hr
  refine ⟨_,(aE (aS (i:=2) gJ.nd rfl (Or.inl rfl) (bG aC))
  (aE (aS (i:=3) gJ.nd rfl (Or.inl rfl) aG)
  (aE (cU PassesOwn.never rfl (cN (bD GSt OSt r1 rfl (aA (pv 0) aC))) (aM (i:=4) gJ.nd rfl (Or.inr rfl))
   (aE (aS (i:=5) gJ.nd rfl (Or.inl rfl) (aQ (aCC rfl) rfl B.sum aG3 (aA (cF (own:=["able", "heft"]) (fr:=[4]) (frn:=["some"]) (aW (aI kR) ["hands", "rows", "best", "most", "some", "weight", "more"] rfl rfl (by decide +kernel)) rfl (cN (pv 1))
    (fun _ _ _ _=>(jH (K:=K) (n:=2) rfl rfl (aX (aM (i:=0) (show (["able", "heft", "some"]:List Str).Nodup by decide +kernel) rfl (Or.inl rfl)) (aX (aM (i:=1) (show (["able", "heft", "some"]:List Str).Nodup by decide +kernel) rfl (Or.inl rfl)) dQ)))) (fun _ _ _ _=>lG (cL (bD GWi OWi r1 rfl (aA (pv 0) (aA (pv 2) aC)))))
    (fun _ _ _ _=>(pv 1))) aC)))
  (aE (aS (i:=6) gJ.nd rfl (Or.inl rfl) (aU vV (aU cY (pv 5) (aQ aV rfl B.len fJ (aA (pv 2) aC))) (aU cY (pv 3) (aQ aV rfl B.len fJ (aA (pv 4) aC)))))
  (aJ (cX (PW.pt (iS (bF mD (pv 6) aG (bK _)) (jA (PW.pt (zY (bF xV (pv 6) aG (bK _)) (vU (bF mD (aQ aV rfl B.len fJ (aA (pv 4) aC)) (aQ aV rfl B.len fJ (aA (pv 2) aC)) (bK _))))))))
   (aE (aS (i:=2) gJ.nd rfl (Or.inl rfl) (pv 4))
  (aJ (aS (i:=3) gJ.nd rfl (Or.inl rfl) (pv 5))))
   bM)))))
  (aJ (aR (bG (aA (pv 2) (aA (pv 3) aC)))))))),?_⟩
  have hzl:=aF hd
  rw [Qb] at hzl
  refine ⟨cA (Jj _),fun p0 h0=>?_⟩
  have s1:=aD.new (o:=.tup []) h0
  have e1:SqT K (upd H p0 (.tup [])) p0 (([]:List Int).map V.int):=SqT.of aB
  generalize upd H p0 (.tup [])=H1 at s1 e1 ⊢
  refine ⟨_,rfl,lp,hs,rfl,s1.seqL hlp,h6,fun sp xs H2 s2 nsp hsp hxs=>?_⟩
  have s12:=s1.trans s2
  refine ⟨sp,rfl,⟨_,SqL.of hsp⟩,iB (K:=K) (a:=sp) (xs:=xs) (fun i σ H3=>∃ b q m v4 v5 v6,σ = [some (.ref lp),some (.ref rp),some (.ref q),some (.int m),v4,v5,v6]/\aD H2 H3/\SqT K H3 q (b.map V.int)/\oC rows ((iY hs).take i) b m/\b.length<=6/\0<=m/\m<=10000) ⟨[],p0,0,none,none,none,rfl,aD.refl _,s2.seqT e1,.inl ⟨rfl,rfl,rfl⟩,by simp,by decide,by decide⟩ (fun i σ H3 _ ⟨_,_,_,_,_,_,_,s3,_⟩=>s3.seqL (SqL.of hsp)) ?_ ?_⟩
  ·rintro i x σ H3 hx ⟨b,q,m,v4,v5,v6,rfl,s3,hq,hb,hb6,hm0,hm1⟩
   obtain ⟨t,ht,htd⟩:=aY hxs hx
   obtain ⟨a,rfl,ha⟩:=bV.mp htd
   have ha3:=s3.seqT ha
   have htm:t∈iY hs:=Qe ht
   have ht6:t.length<=6:=Qu (rA hs t htm) h6
   have s13:=s12.trans s3
   have hW:=aDr hrw (inS t)
   refine ⟨_,rfl,rp,rfl,⟨_,s13.seqL hrp⟩,gN (K:=K) (a:=rp) (xs:=zs) (fun σ=>∃ v w,σ = [v,w,some (.ref a)]) (fun j ys H4=>aD H3 H4/\ys=(((rows.take j).filter fun r=>lN t r.1).map (·.2)).map V.int) (cA (by omega)) ⟨none,none,rfl⟩ ⟨aD.refl _,rfl⟩ ?_ (fun j ys H4 ⟨s4,_⟩=>(s13.trans s4).seqL hrp) ?_ ?_⟩
   ·rintro j ys H4 ⟨_,rfl⟩
    rw [Qb,Qb]
    exact Qu (Jf _ _) (by rw [Ja]; exact Jv _ _)
   ·rintro j ys σ y H4 hy ⟨v,w,rfl⟩ ⟨s4,rfl⟩ hz
    obtain ⟨r,hr,hrd⟩:=aY hd hy
    obtain ⟨pp,pq,rfl,hpp,hpq⟩:=tU hrd
    have s14:=s13.trans s4
    obtain ⟨r6,r0,r99⟩:=hrw r (Qe hr)
    refine ⟨pp,_,rfl,s14.seqT hpp,rfl,_,_,rfl,_,_,rfl,rfl,?_⟩
    refine ⟨_,rfl,_,rfl,pq,a,r.1,t,rfl,s14.seqT hpq,s4.seqT ha3,by omega,fun H5 s5=>⟨_,rfl,?_⟩⟩
    rw [bH hr,Xm,Qr,Qr]
    cases hw:lN t r.1 with
    | true =>
     refine hZ ?_
     refine ⟨_,rfl,hz,⟨_,_,rfl⟩,s4.trans s5,?_⟩
     rw [Qw,hw]; rfl
    | false =>
     refine gR ?_
     refine ⟨⟨_,_,rfl⟩,s4.trans s5,?_⟩
     rw [Qw,hw]
     show _=_++[]
     rw [Xe]
   ·rintro ys H4 ⟨s4,rfl⟩ pn hpn
    rw [hzl,Jh]
    have s5:=aD.new (o:=.lst (((rows.filter fun r=>lN t r.1).map (·.2)).map V.int)) hpn
    refine ⟨pn,_,rfl,SqL.of aB,fun x hx=>?_,?_,?_⟩
    ·obtain ⟨r,hr,rfl⟩:=Qz.mp hx
     have:=hrw r (Jc.mp hr).1
     omega
    ·rw [Qb]; exact Qu (Jf _ _) (by omega)
    ·rw [<- aDq]
     have s35:=s4.trans s5
     generalize upd H4 pn _=H5 at s35 ⊢
     dsimp only [cH]
     refine ⟨_,rfl,_,rfl,q,_,rfl,.inr (s35.seqT hq),_,_,rfl,rfl,⟨jJ (by omega),jJ (by rw [Qb]; omega)⟩,_,rfl,_,rfl,a,_,rfl,.inr (s35.seqT ha3),_,_,rfl,rfl,⟨jJ (by omega),jJ (by rw [Qb]; omega)⟩,_,_,rfl,rfl,?_⟩
     rw [Qb,Qb]
     obtain ⟨c1,c2⟩:=aB1 (s:=t) (fun u hu=>tM hs u (Ym hu)) (tM hs t htm) hb
     rw [<- bH ht] at c1 c2
     dsimp only [cH]
     have stay:¬ (0 < wIn rows (inS t)*b.length - m*t.length∨wIn rows (inS t)*b.length - m*t.length=0/\(b.length:Int) < t.length)->∀ x4 x5 x6,∃ b' q' m' v4 v5 v6,([some (.ref lp),some (.ref rp),some (.ref q),some (.int m),x4,x5,x6]:St) = [some (.ref lp),some (.ref rp),some (.ref q'),some (.int m'),v4,v5,v6]/\aD H2 H5/\SqT K H5 q' (b'.map V.int)/\oC rows ((iY hs).take (i+1)) b' m'/\b'.length<=6/\0<=m'/\m'<=10000:=fun c _ _ _=>⟨b,q,m,_,_,_,rfl,s3.trans s35,s35.seqT hq,c2 c,hb6,hm0,hm1⟩
     refine ⟨_,rfl,_,_,rfl,rfl,_,rfl,?_⟩
     refine gD (fun d=>?_) (fun d=>?_)
     ·exact ⟨_,rfl,_,rfl,t,a,_,_,_,_,rfl,s3.trans s35,s35.seqT ha3,c1 (.inl (of_decide_eq_true d)),ht6,hW.1,by omega⟩
     ·have n1:¬ 0 < wIn rows (inS t)*b.length - m*t.length:=fun z=>d (decide_eq_true z)
      refine ⟨_,rfl,rfl,_,rfl,?_⟩
      refine gD (fun d2=>?_) (fun d2=>?_)
      ·have e2:wIn rows (inS t)*b.length - m*t.length=0:=by simpa using d2
       refine ⟨_,rfl,a,_,rfl,.inr (s35.seqT ha3),_,rfl,q,_,rfl,.inr (s35.seqT hq),_,_,rfl,rfl,_,rfl,?_⟩
       rw [Qb,Qb]
       refine gD (fun d3=>?_) (fun d3=>?_)
       ·exact ⟨_,rfl,_,rfl,t,a,_,_,_,_,rfl,s3.trans s35,s35.seqT ha3,c1 (.inr ⟨e2,of_decide_eq_true d3⟩),ht6,hW.1,by omega⟩
       ·exact stay (fun z=>z.elim n1 fun z=>d3 (decide_eq_true z.2)) _ _ _
      ·exact stay (fun z=>z.elim n1 fun z=>d2 (by rw [z.1]; rfl)) _ _ _
  ·rintro σ H3 ⟨b,q,m,v4,v5,v6,rfl,s3,hq,hb,_⟩
   have hl:=aF hxs
   rw [Qb] at hl
   rw [hl,Jh] at hb
   exact ⟨_,rfl,_,rfl,cA (show 2<=1000 by decide),fun p hp=>k p q b m _ (s12.trans (s3.trans (aD.new hp))) (SqT.of aB) ((aD.new hp).seqT hq) hb⟩
def aEH:Scope:=match (gZ jG).getD 4 (.Pass ⟨0,0,0,0⟩) with
 | .While _ [_,_,_,_,.Assign _ (.ListComp _ _ sc _) _] _ _=>sc
 | _=>{ kind:=.function,names:=[],isGenerator:=false,isCoroutine:=false }
def uR (b:List Int×Int):PyData:=.tuple [eV b.1,bA (jC (b.2,(b.1.length:Int)))]
theorem zR (x:Int×Int):eS (bA x)=true:=by
 unfold bA eS eG eS eG eS eG
 rfl
theorem tX (b:List Int×Int):eS (uR b)=true:=by
 unfold uR eS eG
 rw [iW]
 unfold eG
 rw [zR]
 unfold eG
 rfl
theorem aDs {b:List Int×Int} {q r:Addr} (h1:SqT K H p [.ref q,.ref r]) (h2:SqT K H q (b.1.map V.int)) (h3:SqT K H r [.int (jC (b.2,(b.1.length:Int))).1,.int (jC (b.2,(b.1.length:Int))).2]):Den K H (uR b) (.ref p) :=
 bB.mpr ⟨p,_,rfl,h1,aH.mpr ⟨_,_,rfl,bV.mpr ⟨q,rfl,h2⟩,aH.mpr ⟨_,_,rfl,bE.mpr ⟨r,rfl,h3⟩,aL.mpr rfl⟩⟩⟩
theorem aEI {b:List Int×Int} (h:Den K H (uR b) v):∃ p q r,v=.ref p/\SqT K H p [.ref q,.ref r]/\SqT K H q (b.1.map V.int)/\SqT K H r [.int (jC (b.2,(b.1.length:Int))).1,.int (jC (b.2,(b.1.length:Int))).2]:=by
 obtain ⟨p,xs,rfl,hp,hx⟩:=bB.mp h
 obtain ⟨x1,r1,rfl,d1,hr1⟩:=aH.mp hx
 obtain ⟨x2,r2,rfl,d2,hr2⟩:=aH.mp hr1
 rw [aL.mp hr2] at hp
 obtain ⟨q,rfl,hq⟩:=bV.mp d1
 obtain ⟨r,rfl,hr⟩:=bE.mp d2
 exact ⟨p,q,r,rfl,hp,hq,hr⟩
theorem jV (i:Int) (l:List Int):(!inV (.int i) (l.map V.int))=!inS l i:=by rw [aBf]; rfl
theorem zS (rows:cW) (s:List Int):(redu rows s).length<=rows.length:=by unfold redu; rw [Qb]; exact Jf _ _
theorem RwS.redu {s:List Int} (h:RwS rows):RwS (redu rows s):=fun r hr=>by
 obtain ⟨r0,h0,rfl⟩:=Qz.mp hr
 obtain ⟨a,b,c⟩:=h r0 (Jc.mp h0).1
 exact ⟨Qu (Jf _ _) a,b,c⟩
theorem pH {n:Int} (hb:eK (eM n ws)=true) (hw:tV ws wt):gO (bN n.toNat) (ws.zip wt)/\RwS (ws.zip wt)/\(ws.zip wt).length<=12:=by
 obtain ⟨h1,h2,h3,h4⟩:=cC hb
 have key:∀ r∈ws.zip wt,r.1≠[]/\(∀ h∈r.1,h∈bN n.toNat)/\r.1.length<=6/\0<=r.2/\r.2<=99:=fun r hr=>by
  obtain ⟨a,b⟩:=Yn hr
  obtain ⟨c1,c2,c3⟩:=hJ (h4 _ a)
  have:=hU (by omega) c2 c3
  have:=hw.2 _ b
  exact ⟨c1,fun h hh=>iD.mpr (by have:=c2 h hh; omega),by omega,this⟩
 exact ⟨fun r hr=>⟨(key r hr).1,(key r hr).2.1,(key r hr).2.2.2.1⟩,fun r hr=>(key r hr).2.2,by rw [List.length_zip]; omega⟩
theorem aEJ (hx:aN K H (ws.map eV) xs) (hl:wt.length=ws.length) (hz:zs.length=min xs.length (wt.map V.int).length) (hp:Prs H xs (wt.map V.int) zs):aN K H ((ws.zip wt).map pD) zs:=by
 have hxl:=aF hx
 rw [Qb] at hxl
 rw [Qb] at hz
 refine vO (by rw [Qb,List.length_zip]; omega) fun i d z h1 h2=>?_
 obtain ⟨q,x,y,rfl,h3,h4,h5⟩:=hp i z h2
 rw [Qh] at h1 h4
 obtain ⟨r,hr,rfl⟩:=Je.mp h1
 obtain ⟨g,hg,rfl⟩:=Je.mp h4
 obtain ⟨l,hl2,hl3⟩:=aY hx h3
 obtain ⟨a,rfl,ha⟩:=bV.mp hl3
 rw [Zu] at hr
 rw [hl2,hg] at hr
 have e1:l=r.1:=Option.some.inj hr.1
 have e2:g=r.2:=Option.some.inj hr.2
 rw [e1] at ha
 rw [e2] at h5
 exact qK (SqT.of h5) ha
def tY (K:PySem.W.Frag):Sp:=fun vs H Q _=>∃ (x:V) (n:Int) (ws:List (List Int)) (wp:Addr) (wt:List Int),vs = [x,.ref wp]/\Den K H (eM n ws) x/\eK (eM n ws)=true/\SqT K H wp (wt.map V.int)/\tV ws wt /\
 ∀ p us bs H',aD H H'->H p=none->H' p=some (.lst us)->aN K H' (bs.map uR) us->gW (bN n.toNat) (ws.zip wt) bs->us.length<=6->Q (.ref p) H'
theorem iG:FnScope ["book", "weights", "left", "rows", "told", "some", "weight"] ["book", "weights"] (aI jG):=⟨rfl,rfl,rfl,by decide +kernel,rfl,by decide +kernel,by decide +kernel⟩
theorem aCc {fV:Addr} {dV:FuncData} (G:Fn K mg "blocks" jG ["book", "weights"] f fd) (B:Bl mg) (GNW:Fn K mg "need_weights" oT ["book", "weights"] fN dN) (ONW:FnOk P w K mg base CX0 6 fN dN ["book", "weights"] (pF K)) (GHv:Fn K mg "heaviest" kR ["hands", "rows"] fV dV) (OHv:FnOk P w K mg base CX0 2 fV dV ["hands", "rows"] (aAs K)) (GL:Fn K mg "lowest" nC ["a", "b"] fL dL) (OL:FnOk P w K mg base CX0 2 fL dL ["a", "b"] iZ) (GWi:Fn K mg "is_within" nD ["able", "some"] fI dI) (OWi:FnOk P w K mg base CX0 1 fI dI ["able", "some"] (pG K)):FnOk P w K mg base CX0 7 f fd ["book", "weights"] (tY K):=by
 refine G.fn.ok iG (fun vs H Q E h=>?_) (fun cdv A outer s H vs Q E hr h=>?_)
 ·obtain ⟨x,n,ws,wp,wt,rfl,_⟩:=h
  rfl
 ·obtain ⟨x,n,ws,wp,wt,rfl,hx,hbk,hwp,hwt,k⟩:=h
  have r6:Room 6 _:=hr
  have r2:Room 2 _:=hr.mono (by decide)
  have r1:Room 1 _:=hr.mono (by decide)
  refine ⟨_,(aE (gM (bD GNW ONW r6 rfl (aA (pv 0) (aA (pv 1) aC))))
  (aE (aS (i:=2) iG.nd rfl (Or.inl rfl) (cE (uL rfl) rfl B.list qC (aA (cE yC rfl B.range aEo (aA (aT bO (pv 0) aG (fun _ _=>rfl)) aC)) aC)))
  (aE (aS (i:=3) iG.nd rfl (Or.inl rfl) (aAj .t .t rfl rfl B.list rfl B.zip (aA (aT bO (pv 0) aG (fun _ _=>rfl)) (aA (pv 1) aC))))
  (aE (aS (i:=4) iG.nd rfl (Or.inl rfl) (cI aC))
  (aE (kI PassesOwn.never (xY (pv 2) (fun _=>rfl))
   (aE (lD (bD GHv OHv r2 rfl (aA (pv 2) (aA (pv 3) aC))) (kE rfl (aX (aM (i:=5) iG.nd rfl (Or.inr rfl)) (aX (aM (i:=6) iG.nd rfl (Or.inl rfl)) dQ))))
  (aE (gM (kL PySem.F.plainAttrs_list PySem.F.slot_list_append PySem.F.type_list_append fY (pv 4) (aA (bG (aA (pv 5) (aA (bD GL OL r2 rfl (aA (pv 6) (aA (aQ aV rfl B.len fJ (aA (pv 5) aC)) aC))) aC))) aC)))
  (aE (eX (i:=2) (own:=["hand"]) (fr:=[5]) (frn:=["some"]) (aW (aI jG) ["book", "weights", "left", "rows", "told", "some", "weight"] rfl rfl (by decide +kernel)) rfl iG.nd rfl rfl rfl (cN (pv 2))
    (fun _ _ _ _=>(aM (i:=0) (show (["hand", "some"]:List Str).Nodup by decide +kernel) rfl (Or.inl rfl))) (fun _ _ _ _=>lG (bF (gS (K:=K) rfl) (pv 0) (pv 1) (by with_unfolding_all rfl)))
    (fun _ _ _ _=>(pv 0)))
  (aE (eX (i:=3) (own:=["able", "heft"]) (fr:=[5]) (frn:=["some"]) (aW (aI jG) ["book", "weights", "left", "rows", "told", "some", "weight"] rfl rfl (by decide +kernel)) rfl iG.nd rfl rfl rfl (cN (pv 3))
    (fun _ _ _ _=>(jH (K:=K) (n:=2) rfl rfl (aX (aM (i:=0) (show (["able", "heft", "some"]:List Str).Nodup by decide +kernel) rfl (Or.inl rfl)) (aX (aM (i:=1) (show (["able", "heft", "some"]:List Str).Nodup by decide +kernel) rfl (Or.inl rfl)) dQ)))) (fun _ _ _ _=>lG (dJ (cL (bD GWi OWi r1 rfl (aA (pv 0) (aA (pv 2) aC))))))
    (fun _ _ _ _=>(bG (aA (pv 0) (aA (pv 1) aC)))))
  (aJ (eX (i:=3) (own:=["able", "heft"]) (fr:=[5]) (frn:=["some"]) (aW (aI jG) ["book", "weights", "left", "rows", "told", "some", "weight"] rfl rfl (by decide +kernel)) rfl iG.nd rfl rfl rfl (cN (pv 3))
    (fun _ _ _ _=>(jH (K:=K) (n:=2) rfl rfl (aX (aM (i:=0) (show (["able", "heft", "some"]:List Str).Nodup by decide +kernel) rfl (Or.inl rfl)) (aX (aM (i:=1) (show (["able", "heft", "some"]:List Str).Nodup by decide +kernel) rfl (Or.inl rfl)) dQ)))) (fun _ _ _ _=>cJ)
    (fun _ _ _ _=>(bG (aA (cE (gF (K:=K) rfl) rfl B.tuple dY (aA (cF (own:=["hand"]) (fr:=[2]) (frn:=["some"]) (aW (aCO aEH (aI jG)) ["able", "heft", "some"] rfl rfl (by decide +kernel)) rfl (xA (K:=K) rfl (pv 0))
    (fun _ _ _ _=>(aM (i:=0) (show (["hand", "some"]:List Str).Nodup by decide +kernel) rfl (Or.inl rfl))) (fun _ _ _ _=>lG (bF (gS (K:=K) rfl) (pv 0) (pv 1) (by with_unfolding_all rfl)))
    (fun _ _ _ _=>(pv 0))) aC)) (aA (pv 1) aC)))))))))))
  (aJ (aR (pv 4)))))))),?_⟩
  obtain ⟨a,b,ys,rfl,ha,hb,hys⟩:=fM hx
  have hly:=aF hys
  rw [Qb] at hly
  obtain ⟨hn1,hn6,h12,_⟩:=cC hbk
  obtain ⟨RO,RS,RL⟩:=pH hbk hwt
  refine ⟨_,rfl,_,rfl,_,n,ws,wp,wt,rfl,hx,hbk,hwp,hwt,fun H1 s1=>?_⟩
  refine ⟨_,rfl,a,_,0,.int n,rfl,rfl,s1.seqT ha,rfl,n,rfl,fun pr hpr=>⟨pr,n.toNat,rfl,by rw [aB,Yp (by omega)],by omega,fun lp hlp=>?_⟩⟩
  have s2:=s1.trans ((aD.new (o:=.rng 0 n) hpr).trans (aD.new (o:=.lst ((bN n.toNat).map V.int)) hlp))
  have el:upd (upd H1 pr (.rng 0 n)) lp (.lst ((bN n.toNat).map V.int)) lp=some (.lst ((bN n.toNat).map V.int)):=aB
  generalize upd (upd H1 pr (.rng 0 n)) lp (.lst ((bN n.toNat).map V.int))=H2 at s2 el ⊢
  refine ⟨_,rfl,a,_,1,.ref b,rfl,rfl,s2.seqT ha,rfl,_,rfl,b,wp,ys,_,rfl,s2.seqT hb,s2.seqT hwp,by rw [sizeLine_eq]; omega,fun rp zs H3 s3 nrp hrp hzl hprs=>?_⟩
  have s23:=s2.trans s3
  have D3:aN K H3 ((ws.zip wt).map pD) zs:=aEJ (s23.denAll _ _ hys) hwt.1 hzl hprs
  refine ⟨cA (Jj _),fun tp htp=>?_⟩
  have s34:=aD.new (o:=.lst []) htp
  have ntp:H tp=none:=s23.free htp
  have et:upd H3 tp (.lst []) tp=some (.lst []):=aB
  have el4:=s34 _ _ (s3 _ _ el)
  have er4:=s34 _ _ hrp
  have nl:lp≠tp:=fun z=>by rw [<- z,s3 _ _ el] at htp; cases htp
  have nr:rp≠tp:=fun z=>by rw [<- z,hrp] at htp; cases htp
  have D4:=s34.denAll _ _ D3
  have s4:=s23.trans s34
  generalize upd H3 tp (.lst [])=H4 at s34 et el4 er4 D4 s4 ⊢
  -- the while
  refine ⟨fun m σ H5=>∃ lp rp hs zs rows us bs v5 v6,m=hs.length/\σ = [some (.ref a),some (.ref wp),some (.ref lp),some (.ref rp),some (.ref tp),v5,v6]/\aD H H5/\lp≠tp/\rp≠tp/\H5 lp=some (.lst (hs.map V.int))/\H5 rp=some (.lst zs)/\H5 tp=some (.lst us)/\aN K H5 (rows.map pD) zs/\aN K H5 (bs.map uR) us/\us.length+hs.length<=6/\hs.Nodup/\gO hs rows/\RwS rows/\rows.length<=12/\∀ jF,gW hs rows jF->gW (bN n.toNat) (ws.zip wt) (bs++jF),
   ⟨_,lp,rp,bN n.toNat,zs,ws.zip wt,[],[],none,none,rfl,rfl,s4,nl,nr,el4,er4,et,D4,aL.mpr rfl,by rw [cS]; show 0+_<=6; omega,rQ _,RO,RS,RL,fun jF h=>h⟩,?_⟩
  rintro m σ H5 ⟨lp,rp,hs,zs,rows,us,bs,v5,v6,rfl,rfl,s5,nl,nr,el,er,et,DR,DB,hlen,hnd,RO,RS,RL,hcont⟩
  refine ⟨_,rfl,!(hs.map V.int).isEmpty,.inl ⟨_,SqL.of el,rfl⟩,?_⟩
  by_cases hne:hs = []
  ·subst hne
   refine gR ?_
   refine ⟨_,rfl,k tp us bs H5 s5 ntp et DB ?_ (by simpa using hlen)⟩
   have:=hcont [] rfl
   rwa [Xe] at this
  ·refine lX (by cases hs with
    | nil=>exact absurd rfl hne
    | cons _ _=>rfl) ?_
   refine ⟨fun σ' H'=>∃ m',m' < hs.length/\∃ lp rp hs zs rows us bs v5 v6,m'=Yz hs/\σ' = [some (.ref a),some (.ref wp),some (.ref lp),some (.ref rp),some (.ref tp),v5,v6]/\aD H H'/\lp≠tp/\rp≠tp/\H' lp=some (.lst (hs.map V.int))/\H' rp=some (.lst zs)/\H' tp=some (.lst us)/\aN K H' (rows.map pD) zs/\aN K H' (bs.map uR) us/\us.length+hs.length<=6/\hs.Nodup/\gO hs rows/\RwS rows/\rows.length<=12/\∀ jF,gW hs rows jF->gW (bN n.toNat) (ws.zip wt) (bs++jF),fun σ' H' z=>z,?_⟩
   refine ⟨_,rfl,_,rfl,lp,rp,hs,zs,rows,rfl,SqL.of el,SqL.of er,DR,by omega,RL,RS,fun p q c mm H6 s6 hp hq hbest=>?_⟩
   have HV:=aEx hnd RO hne hbest
   obtain ⟨c1,c2,c3,_⟩:=id HV
   have cl:c.length<=6:=by rw [c2]; exact Qu (Jf _ _) (by omega)
   have c0:0 < c.length:=Xd.mpr c1
   refine ⟨p,_,rfl,hp,rfl,_,_,rfl,_,_,rfl,rfl,?_⟩
   refine ⟨_,rfl,.inl ⟨rfl,_,SqL.of (s6 _ _ et)⟩,_,rfl,_,rfl,_,rfl,q,_,rfl,.inr hq,mm,_,rfl,by rw [Qb]; omega,?_,fun pf hpf=>⟨cA (show 2<=1000 by decide),fun pb hpb=>?_⟩⟩
   ·rw [Qb]
    have:((c.length:Nat):Int)<=6:=by omega
    exact Xt this (by decide)
   -- told,one block more
   have hlc:(((c.map V.int).length:Nat):Int)=c.length:=by rw [Qb]
   rw [hlc] at hpb ⊢
   have s7:=(aD.new (o:=.tup [.int (mQ mm c.length),.int (nN mm c.length)]) hpf).trans (aD.new (o:=.tup [.ref q,.ref pf]) hpb)
   have db:Den K (upd (upd H6 pf (.tup [.int (mQ mm c.length),.int (nN mm c.length)])) pb (.tup [.ref q,.ref pf])) (uR (c,mm)) (.ref pb):=aDs (SqT.of aB) (s7.seqT hq) ((aD.new hpb).seqT (SqT.of aB))
   generalize upd (upd H6 pf (.tup [.int (mQ mm c.length),.int (nN mm c.length)])) pb (.tup [.ref q,.ref pf])=H7 at s7 db ⊢
   have s67:=s6.trans s7
   have et7:=s67 _ _ et
   refine ⟨tp,us,.ref pb,rfl,rfl,et7,by rw [sizeLine_eq]; omega,?_⟩
   have b8:But tp H7 (upd H7 tp (.lst (us++[.ref pb]))):=But.at
   have s8:aD H (upd H7 tp (.lst (us++[.ref pb]))):=aDm (s5.trans s67) ntp
   have el8:upd H7 tp (.lst (us++[.ref pb])) lp=_:=(aK nl).trans (s67 _ _ el)
   have er8:upd H7 tp (.lst (us++[.ref pb])) rp=_:=(aK nr).trans (s67 _ _ er)
   have et8:upd H7 tp (.lst (us++[.ref pb])) tp=some (.lst (us++[.ref pb])):=aB
   have DR8:=b8.denAll et7 _ _ (gG pD (fun r=>zQ r.1 r.2) rows) (s67.denAll _ _ DR)
   have DB8:aN K (upd H7 tp (.lst (us++[.ref pb]))) ((bs++[(c,mm)]).map uR) (us++[.ref pb]):=by
    rw [Qr]
    exact aZ (b8.denAll et7 _ _ (gG uR tX bs) (s67.denAll _ _ DB)) (aH.mpr ⟨_,_,rfl,b8.den et7 _ _ (tX _) db,aL.mpr rfl⟩)
   have hq8:=b8.seqT et7 (s7.seqT hq)
   generalize upd H7 tp (.lst (us++[.ref pb]))=H8 at s8 el8 er8 et8 DR8 DB8 hq8 ⊢
   -- left
   refine ⟨_,rfl,lp,rfl,⟨_,SqL.of el8⟩,gN (K:=K) (a:=lp) (xs:=hs.map V.int) (fun σ=>∃ v,σ = [v,some (.ref q)]) (fun j ys H9=>aD H8 H9/\ys=((hs.take j).filter fun h=>!inS c h).map V.int) (cA (by rw [Qb]; omega)) ⟨none,rfl⟩ ⟨aD.refl _,rfl⟩ ?_ (fun j ys H9 ⟨s9,_⟩=>s9.seqL (SqL.of el8)) ?_ ?_⟩
   ·rintro j ys H9 ⟨_,rfl⟩
    rw [Qb]
    exact Qu (Jf _ _) (by rw [Ja]; exact Jv _ _)
   ·rintro j ys σ y H9 hy ⟨v,rfl⟩ ⟨s9,rfl⟩ hz
    rw [Qh] at hy
    obtain ⟨h,hh,rfl⟩:=Je.mp hy
    refine ⟨_,rfl,_,rfl,q,c.map V.int,rfl,.inr (s9.seqT hq8),rfl,jL _,_,rfl,?_⟩
    have e:(!inV (.int h) (c.map V.int))=!inS c h:=jV h c
    show if (!inV (.int h) (c.map V.int))=true then _ else _
    rw [e,bH hh,Xm,Qr]
    cases hc:inS c h with
    | false =>
     refine hZ ⟨_,rfl,hz,⟨_,rfl⟩,s9,?_⟩
     rw [Qw,hc]; rfl
    | true =>
     refine gR ⟨⟨_,rfl⟩,s9,?_⟩
     rw [Qw,hc]
     show _=_++[]
     rw [Xe]
   ·rintro ys H9 ⟨s9,rfl⟩ l2 hl2
    rw [Qb,Jh]
    have s10:=s9.trans (aD.new (o:=.lst ((hs.filter fun h=>!inS c h).map V.int)) hl2)
    have nl2:l2≠tp:=fun z=>by rw [z,s9 _ _ et8] at hl2; cases hl2
    have el10:upd H9 l2 (.lst ((hs.filter fun h=>!inS c h).map V.int)) l2=_:=aB
    generalize upd H9 l2 (.lst ((hs.filter fun h=>!inS c h).map V.int))=H10 at s10 el10 ⊢
    -- rows: those not within
    have hzl:=aF DR
    rw [Qb] at hzl
    refine ⟨_,rfl,rp,rfl,⟨_,SqL.of (s10 _ _ er8)⟩,gN (K:=K) (a:=rp) (xs:=zs) (fun σ=>∃ v w,σ = [v,w,some (.ref q)]) (fun j ys H11=>aD H10 H11/\aN K H11 (((rows.take j).filter fun r=>!(r.1.all (inS c))).map pD) ys) (cA (by omega)) ⟨none,none,rfl⟩ ⟨aD.refl _,aL.mpr rfl⟩ ?_ (fun j ys H11 ⟨s11,_⟩=>s11.seqL (SqL.of (s10 _ _ er8))) ?_ ?_⟩
    ·rintro j ys H11 ⟨_,d11⟩
     rw [aF d11,Qb]
     exact Qu (Jf _ _) (by rw [Ja]; exact Jv _ _)
    ·rintro j ys σ y H11 hy ⟨v,w,rfl⟩ ⟨s11,d11⟩ hz
     have s1011:=s10.trans s11
     obtain ⟨r,hr,hrd⟩:=aY (s1011.denAll _ _ DR8) hy
     obtain ⟨pp,pq,rfl,hpp,hpq⟩:=tU hrd
     obtain ⟨r6,_,_⟩:=RS r (Qe hr)
     refine ⟨pp,_,rfl,hpp,rfl,_,_,rfl,_,_,rfl,rfl,?_⟩
     refine ⟨_,rfl,_,rfl,pq,q,r.1,c,rfl,hpq,s1011.seqT hq8,by omega,fun H12 s12=>⟨_,rfl,?_⟩⟩
     rw [bH hr,Xm,Qr]
     show if (!(r.1.all (inS c)))=true then _ else _
     cases hw:r.1.all (inS c) with
     | false =>
      refine hZ ⟨_,rfl,_,rfl,cA (show 2<=1000 by decide),fun pn hpn=>⟨hz,⟨_,_,rfl⟩,s11.trans (s12.trans (aD.new hpn)),?_⟩⟩
      refine aZ ((s12.trans (aD.new hpn)).denAll _ _ d11) ?_
      rw [Qw,hw]
      exact aH.mpr ⟨_,_,rfl,qK (SqT.of aB) ((s12.trans (aD.new hpn)).seqT hpq),aL.mpr rfl⟩
     | true =>
      refine gR ⟨⟨_,_,rfl⟩,s11.trans s12,?_⟩
      rw [Qw,hw]
      show aN K _ (_++[]) _
      rw [Xe]
      exact s12.denAll _ _ d11
    ·rintro ys H11 ⟨s11,d11⟩ rp1 hrp1
     rw [hzl,Jh] at d11
     have s12:=s11.trans (aD.new (o:=.lst ys) hrp1)
     have er12:upd H11 rp1 (.lst ys) rp1=some (.lst ys):=aB
     have d12:=(aD.new (o:=.lst ys) hrp1).denAll _ _ d11
     generalize upd H11 rp1 (.lst ys)=H12 at s12 er12 d12 ⊢
     have hyl:=aF d12
     rw [Qb] at hyl
     have hyl2:ys.length<=12:=by rw [hyl]; exact Qu (Jf _ _) RL
     generalize hR1:(rows.filter fun r=>!(r.1.all (inS c)))=rows1 at d12 hyl
     have RS1:∀ r∈rows1,r.1.length<=6:=fun r hr=>by rw [<- hR1] at hr; exact (RS r (Jc.mp hr).1).1
     refine ⟨_,rfl,rp1,rfl,⟨_,SqL.of er12⟩,gN (K:=K) (a:=rp1) (xs:=ys) (fun σ=>∃ v w,σ = [v,w,some (.ref q)]) (fun j zs H13=>aD H12 H13/\aN K H13 (((rows1.take j).map fun r=>(r.1.filter fun h=>!inS c h,r.2)).map pD) zs) (cA (by omega)) ⟨none,none,rfl⟩ ⟨aD.refl _,aL.mpr rfl⟩ ?_ (fun j zs H13 ⟨s13,_⟩=>s13.seqL (SqL.of er12)) ?_ ?_⟩
     ·rintro j zs H13 ⟨_,d13⟩
      rw [aF d13,Qb,Qb,Ja]
      exact Jv _ _
     ·rintro j zs σ y H13 hy ⟨v,w,rfl⟩ ⟨s13,d13⟩ hz
      obtain ⟨r,hr,hrd⟩:=aY (s13.denAll _ _ d12) hy
      obtain ⟨pp,pq,rfl,hpp,hpq⟩:=tU hrd
      have hr6:=RS1 r (Qe hr)
      have sq:=(s10.trans s12).trans s13
      refine ⟨pp,_,rfl,hpp,rfl,_,_,rfl,_,_,rfl,rfl,?_⟩
      refine ⟨_,rfl,pq,rfl,⟨_,hpq⟩,mH (K:=K) (a:=pq) (xs:=r.1.map V.int) (fun σ=>∃ v,σ = [v,some (.ref q)]) (fun i as H14=>aD H13 H14/\as=((r.1.take i).filter fun h=>!inS c h).map V.int) (cA (by rw [Qb]; omega)) ⟨none,rfl⟩ ⟨aD.refl _,rfl⟩ ?_ (fun i as H14 ⟨s14,_⟩=>s14.seqT hpq) ?_ ?_⟩
      ·rintro i as H14 ⟨_,rfl⟩
       rw [Qb]
       exact Qu (Jf _ _) (by rw [Ja]; exact Jv _ _)
      ·rintro i as σ y H14 hy ⟨v,rfl⟩ ⟨s14,rfl⟩ hz2
       rw [Qh] at hy
       obtain ⟨h,hh,rfl⟩:=Je.mp hy
       refine ⟨_,rfl,_,rfl,q,c.map V.int,rfl,.inr ((sq.trans s14).seqT hq8),rfl,jL _,_,rfl,?_⟩
       have e:(!inV (.int h) (c.map V.int))=!inS c h:=jV h c
       show if (!inV (.int h) (c.map V.int))=true then _ else _
       rw [e,bH hh,Xm,Qr]
       cases hc:inS c h with
       | false =>
        refine hZ ⟨_,rfl,hz2,⟨_,rfl⟩,s14,?_⟩
        rw [Qw,hc]; rfl
       | true =>
        refine gR ⟨⟨_,rfl⟩,s14,?_⟩
        rw [Qw,hc]
        show _=_++[]
        rw [Xe]
      ·rintro as H14 ⟨s14,rfl⟩ pl hpl
       rw [Qb,Jh]
       refine ⟨pl,_,rfl,.inl ⟨SqL.of aB,fun pt hpt=>?_⟩⟩
       refine ⟨_,rfl,cA (show 2<=1000 by decide),fun pn hpn=>⟨hz,⟨_,_,rfl⟩,?_,?_⟩⟩
       ·exact s13.trans (s14.trans ((aD.new hpl).trans ((aD.new hpt).trans (aD.new hpn))))
       ·rw [bH hr,Qr,Qr]
        refine aZ ((s14.trans ((aD.new hpl).trans ((aD.new hpt).trans (aD.new hpn)))).denAll _ _ d13) ?_
        exact aH.mpr ⟨_,_,rfl,qK (SqT.of aB) ((aD.new hpn).seqT (SqT.of aB)),aL.mpr rfl⟩
     ·rintro zs2 H13 ⟨s13,d13⟩ rp2 hrp2
      rw [hyl,Jh] at d13
      have s14:=s13.trans (aD.new (o:=.lst zs2) hrp2)
      have nr2:rp2≠tp:=fun z=>by rw [z,((s10.trans s12).trans s13) _ _ et8] at hrp2; cases hrp2
      have sA:=s10.trans (s12.trans s14)
      have hlt:(hs.filter fun h=>!inS c h).length < hs.length:=by
       have e:hs.length=(hs.filter (inS c)).length+(hs.filter fun h=>!inS c h).length:=by
        have:=vL c2 (fun _=>true)
        unfold mU at this
        rw [Wq.mpr (fun a _=>by simp),Wq.mpr (fun a _=>rfl)] at this
        rw [<- c2]; omega
       rw [<- c2] at e
       omega
      have eR:rows1.map (fun r=>(r.1.filter fun h=>!inS c h,r.2))=redu rows c:=by rw [<- hR1]; rfl
      rw [eR] at d13
      refine ⟨_,hlt,l2,rp2,hs.filter fun h=>!inS c h,zs2,redu rows c,us++[.ref pb],bs++[(c,mm)],_,_,rfl,rfl,s8.trans sA,nl2,nr2,(s12.trans s14) _ _ el10,aB,sA _ _ et8,(aD.new hrp2).denAll _ _ d13,sA.denAll _ _ DB8,?_,hnd.filter _,RO.redu,RS.redu,Qu (zS _ _) RL,fun jF hrest=>?_⟩
      ·rw [Qt,Jw]; omega
      ·rw [List.append_assoc]
       exact hcont ((c,mm)::jF) ⟨HV,hrest⟩
end Ab
namespace L2
open PySem
theorem aD.wr {u:HO} (e:aD H H') (h:H a=none):aD H (upd H' a u):=Ab.aDm e h
end L2
namespace Ab
open PySem L2
theorem kT:∀ (n:Nat) (l:List Int),l.Nodup->(∀ x∈l,0<=x/\x < (n:Int))->l.length<=n
 | 0,[],_,_=>Qg _
 | 0,x::_,_,h=>by have:=h x (.head _); omega
 | n+1,l,hn,h=>by
  by_cases hm:(n:Int)∈l
  ·have h1:=kT n (l.erase (n:Int)) (hn.erase _) fun x hx=>by
    have h2:=(hn.mem_erase_iff).mp hx
    have h3:=h x h2.2
    have:=h2.1
    omega
   rw [List.length_erase_of_mem hm] at h1
   omega
  ·have h1:=kT n l hn fun x hx=>by
    have h3:=h x hx
    have:x≠(n:Int):=fun z=>hm (z ▸ hx)
    omega
   omega
theorem iH {xs:List Int} {i:Nat} (h:(xs.map V.int)[i]?=some v):∃ a,xs[i]?=some a/\v=.int a:=by
 rw [Qh] at h
 cases q:xs[i]? with
 | none=>rw [q] at h; cases h
 | some a=>rw [q] at h; exact ⟨a,rfl,(Option.some.inj h).symm⟩
theorem aGb {k:Int} (h0:0<=k) (h1:k < n):ixN n k=some k.toNat:=by
 unfold ixN
 rw [if_pos h0,if_pos (by omega)]
def qL (E:Nat->Int->Prop) (r:List (Key×V)):Prop:=(∀ k v,cB r k=some v->∃ (w:Nat) (t:Int),k=.inl t/\v=.int (w:Nat)/\E w t)/\∀ w t,E w t->(cB r (.inl t)).isSome=true
theorem qL.nil {E:Nat->Int->Prop} (h:∀ w t,¬ E w t):qL E []:=⟨fun k v e=>(by rw [aCS] at e; cases e),fun w t e=>(h w t e).elim⟩
theorem qL.put {E:Nat->Int->Prop} (h:qL E r) (w:Nat) (t:Int):qL (fun w' t'=>E w' t'∨(w'=w/\t'=t)) (eP r (.inl t) (.int (w:Nat))):=by
 refine ⟨fun k v e=>?_,fun w' t' e=>?_⟩
 ·rw [jQ] at e
  by_cases hk:k=Sum.inl t
  ·rw [if_pos hk] at e
   exact ⟨w,t,hk,(Option.some.inj e).symm,.inr ⟨rfl,rfl⟩⟩
  ·rw [if_neg hk] at e
   obtain ⟨w',t',h1,h2,h3⟩:=h.1 k v e
   exact ⟨w',t',h1,h2,.inl h3⟩
 ·rw [jQ]
  by_cases hk:(Sum.inl t':Key)=Sum.inl t
  ·rw [if_pos hk]; rfl
  ·rw [if_neg hk]
   rcases e with e | ⟨_,e⟩
   ·exact h.2 w' t' e
   ·exact absurd (by rw [e]) hk
theorem qL.congr {E E':Nat->Int->Prop} (h:qL E r) (e:∀ w t,E w t↔E' w t):qL E' r:=⟨fun k v q=>let ⟨w,t,a,b,c⟩:=h.1 k v q; ⟨w,t,a,b,(e w t).mp c⟩,fun w t q=>h.2 w t ((e w t).mpr q)⟩
structure Rows (H:Hp) (rp:Addr) (qs:List Addr) (rs:List (List (Key×V))):Prop where
 lst:H rp=some (.lst (qs.map V.ref))
 len:qs.length=rs.length
 nd:qs.Nodup
 row:∀ (g:Nat) q r,qs[g]?=some q->rs[g]?=some r->H q=some (.dK r)
theorem Rows.same (h:Rows H rp qs rs) (s:aD H H'):Rows H' rp qs rs:=⟨s _ _ h.lst,h.len,h.nd,fun g q r a b=>s _ _ (h.row g q r a b)⟩
theorem Rows.put (h:Rows H rp qs rs) {g:Nat} {q:Addr} {r':List (Key×V)} (hq:qs[g]?=some q) (hr:rs[g]?=some r):Rows (upd H q (.dK r')) rp qs (rs.set g r'):=by
 have hg:=h.row g q r hq hr
 have nq:rp≠q:=fun z=>by have:=h.lst; rw [z,hg] at this; cases this
 refine ⟨by rw [aK nq]; exact h.lst,by rw [Xs]; exact h.len,h.nd,fun g2 q2 r2 h1 h2=>?_⟩
 rw [Xy] at h2
 by_cases e:g=g2
 ·subst e
  rw [if_pos rfl] at h2
  rw [hq] at h1
  cases h1
  by_cases hl:g < rs.length
  ·rw [if_pos hl] at h2; cases h2; exact aB
  ·rw [if_neg hl] at h2; cases h2
 ·rw [if_neg e] at h2
  have n2:q2≠q:=fun z=>by
   subst z
   have hlt:g < qs.length:=(Qd.mp hq).1
   exact e ((Yg hlt h.nd).mp (hq.trans h1.symm))
  rw [aK n2]
  exact h.row g2 q2 r2 h1 h2
theorem Rows.other {u:HO} (h:Rows H rp qs rs) (hn:H a=none):Rows (upd H a u) rp qs rs:=h.same (aD.new hn)
def aFm (E:Int->Nat->Int->Prop) (rs:List (List (Key×V))) (m:Nat):Prop:=∀ (g:Nat) r,rs[g]?=some r->qL (E g) r/\r.length<=m
def Tp (H H':Hp):Prop:=∀ p xs,H p=some (.tup xs)->H' p=some (.tup xs)
theorem Tp.of (s:aD H H'):Tp H H':=fun _ _ h=>s _ _ h
theorem Tp.trans (a:Tp H H1) (b:Tp H1 H2):Tp H H2:=fun p xs h=>b p xs (a p xs h)
theorem Tp.upd {u:HO} (h:∀ xs,H a≠some (.tup xs)):Tp H (upd H a u):=fun p xs e=>by
 have ne:p≠a:=fun z=>h xs (by rw [<- z]; exact e)
 rw [aK ne]; exact e
theorem rV {fs:List (Key×V)} {os:List Int} (h:fs.map (·.1)=os.map Sum.inl) (t:Int):(cB fs (.inl t)).isSome=decide (t∈os):=by
 rw [<- fG]
 have:(fs.any fun kv=>decide (kv.1=Sum.inl t))=((fs.map (·.1)).any fun k=>decide (k=Sum.inl t)):=by rw [Yj]; rfl
 rw [this,h,Yj,Xf]
 simp
structure Tree (Ed:Int->Nat->Int->Prop) (n first:Int) (H:Hp) (fs:List (Key×V)) (os:List Int):Prop where
 keys:fs.map (·.1)=os.map Sum.inl
 nd:os.Nodup
 rng:∀ o∈os,0<=o/\o < n
 head:os[0]?=some first
 v0:cB fs (.inl first)=some .non
 par:∀ (j:Nat) (t:Int),0 < j->os[j]?=some t->∃ (p:Addr) (w:Nat) (g:Int) (i:Nat),cB fs (.inl t)=some (.ref p)/\H p=some (.tup [.int (w:Nat),.int g,.int t])/\Ed g w t/\i < j/\os[i]?=some g
section
variable {Ed:Int->Nat->Int->Prop} {n first:Int} {fs:List (Key×V)} {os:List Int}
theorem Tree.tp (T:Tree Ed n first H fs os) (e:Tp H H'):Tree Ed n first H' fs os :=
 ⟨T.keys,T.nd,T.rng,T.head,T.v0,fun j t h0 h1=>let ⟨p,w,g,i,a,b,c⟩:=T.par j t h0 h1; ⟨p,w,g,i,a,e _ _ b,c⟩⟩
theorem Tree.len (T:Tree Ed n first H fs os):os.length<=n.toNat:=kT _ _ T.nd fun x hx=>by have:=T.rng x hx; omega
theorem Tree.flen (T:Tree Ed n first H fs os):fs.length=os.length:=by
 have:=congrArg Yz T.keys
 rwa [Qb,Qb] at this
theorem Tree.one (h0:0<=first) (h1:first < n):Tree Ed n first H [(.inl first,.non)] [first] :=
 ⟨rfl,by simp,fun o ho=>by rw [Qi.mp ho]; exact ⟨h0,h1⟩,rfl,eQ rfl,fun j t h2 h3=>by
  cases j with
  | zero=>omega
  | succ j=>simp at h3⟩
theorem Tree.grow (T:Tree Ed n first H fs os) {w:Nat} {g t:Int} {i:Nat} (hp:H p=some (.tup [.int (w:Nat),.int g,.int t])) (e:Ed g w t) (hi:os[i]?=some g) (ht:t∉os) (r0:0<=t) (r1:t < n) :
  Tree Ed n first H (fs++[(.inl t,.ref p)]) (os++[t]):=by
 have hv:cB fs (.inl t)=none:=by
  have:=rV T.keys t
  rw [decide_eq_false ht] at this
  cases q:cB fs (.inl t) with
  | none=>rfl
  | some v=>rw [q] at this; cases this
 have hlt:i < os.length:=(Qd.mp hi).1
 have val:∀ j:Key,cB (fs++[(.inl t,.ref p)]) j=if j=.inl t then some (.ref p) else cB fs j:=fun j=>pY _ _ _ _ hv
 have hf:first∈os:=Qe T.head
 refine ⟨by rw [Qr,Qr,T.keys]; rfl,?_,fun o ho=>?_,?_,?_,fun j t' h0 h1=>?_⟩
 ·rw [Yh]
  exact ⟨T.nd,by simp,fun x hx y hy z=>ht (by rw [<- Qi.mp hy,<- z]; exact hx)⟩
 ·rcases Jg.mp ho with h | h
  ·exact T.rng o h
  ·rw [Qi.mp h]; exact ⟨r0,r1⟩
 ·rw [Ji (by omega)]; exact T.head
 · rw [val, if_neg (fun z => ht (by have : first = t := by simpa using z
                                    rw [<- this]; exact hf))]
   exact T.v0
 ·by_cases hj:j < os.length
  ·rw [Ji hj] at h1
   obtain ⟨p',w',g',i',a,b,c,d,e'⟩:=T.par j t' h0 h1
   have ne : (Sum.inl t' : Key) ≠ Sum.inl t := fun z => ht (by have : t' = t := by simpa using z
                                                               rw [<- this]; exact Qe h1)
   exact ⟨p',w',g',i',by rw [val,if_neg ne]; exact a,b,c,d,by rw [Ji (by omega)]; exact e'⟩
  ·have ej:j=os.length:=by
    have:=(Qd.mp h1).1
    rw [Qt] at this
    simp at this
    omega
   subst ej
   rw [Jm (Qg _),Nat.sub_self] at h1
   have et:t'=t:=by simpa using h1.symm
   subst et
   exact ⟨p,w,g,i,by rw [val,if_pos rfl],hp,e,hlt,by rw [Ji hlt]; exact hi⟩
end
def aEK (Ed:Int->Nat->Int->Prop) (os:List Int):Prop:=∀ g∈os,∀ w t,Ed g w t->t∈os
def qM (K:PySem.W.Frag):Sp:=fun vs H Q _=>∃ rp first qs rs n Ed,vs = [.ref rp,.int first]/\Rows H rp qs rs/\rs.length=n.toNat/\aFm Ed rs 1000/\(∀ g w t,Ed g w t->0<=t/\t < n)/\n<=100/\0<=first/\first < n /\
 ∀ fd H' fs os,aD H H'->H fd=none->H' fd=some (.dK fs)->Tree Ed n first H' fs os->aEK Ed os->Q (.ref fd) H'
theorem kU:FnScope ["rows", "first", "found", "waiting", "giver", "taker"] ["rows", "first"] (aI oU):=⟨rfl,rfl,rfl,by decide +kernel,rfl,by decide +kernel,by decide +kernel⟩
theorem aAt (G:Fn K mg "reached" oU ["rows", "first"] f fd) (B:Bl mg):FnOk P w K mg base CX0 1 f fd ["rows", "first"] (qM K):=by
 refine G.fn.ok kU (fun vs H Q E h=>?_) (fun cdv A outer s H vs Q E hr h=>?_)
 ·obtain ⟨rp,first,qs,rs,n,Ed,rfl,_⟩:=h
  rfl
 ·obtain ⟨rp,first,qs,rs,n,Ed,rfl,R,hlr,ER,hedge,hn6,hf0,hf1,k⟩:=h
  refine ⟨_,(aE (aS (i:=2) kU.nd rfl (Or.inl rfl) (yR (pv 1) vT))
   (aE (aS (i:=3) kU.nd rfl (Or.inl rfl) (cI (aA (pv 1) aC)))
   (aE (kI PassesOwn.never (xY (pv 3) (fun _=>rfl))
    (aE (aS (i:=4) kU.nd rfl (Or.inl rfl) (kL PySem.F.plainAttrs_list PySem.F.slot_list_pop PySem.F.type_list_pop aCz (pv 3) (aA aG aC)))
    (aJ (aAX (cU PassesOwn.never rfl (wH (aT eD (pv 0) (pv 4) (fun _ _=>rfl))) (aM (i:=5) kU.nd rfl (Or.inl rfl))
     (aJ (cX (aCp (aBP (lW hr) (pv 5) (pv 2)) (by with_unfolding_all rfl))
      (aE (wG (lW hr) (pv 2) (pv 5) (bG (aA (lJ (lW hr) (aT eD (pv 0) (pv 4) (fun _ _=>rfl)) (pv 5) (fun _ _=>rfl)) (aA (pv 4) (aA (pv 5) aC)))) rfl)
      (aJ (gM (kL PySem.F.plainAttrs_list PySem.F.slot_list_append PySem.F.type_list_append fY (pv 3) (aA (pv 5) aC)))))
      bM)))))))
   (aJ (aR (pv 2)))))),?_⟩
  intro fd0 hfd0
  refine ⟨_,rfl,.inl first,rfl,aB,?_⟩
  rw [aAF]
  have s1:=aD.new (o:=.dK [(.inl first,.non)]) hfd0
  have e1:upd H fd0 (.dK [(.inl first,.non)]) fd0=some (.dK [(.inl first,.non)]):=aB
  generalize upd H fd0 (.dK [(.inl first,.non)])=H1 at s1 e1 ⊢
  refine ⟨_,rfl,sz1 _,fun wt hwt=>?_⟩
  have hwt0:H wt=none:=s1.free hwt
  have nfw:fd0≠wt:=fun z=>by rw [z,hwt] at e1; cases e1
  have s2:=s1.trans (aD.new (o:=.lst [.int first]) hwt)
  have e2:=(aD.new (o:=.lst [.int first]) hwt) _ _ e1
  have w2:upd H1 wt (.lst [.int first]) wt=some (.lst [.int first]):=aB
  generalize upd H1 wt (.lst [.int first])=H2 at s2 e2 w2 ⊢
  -- the while
  refine ⟨fun m σ H3=>∃ (v4 v5:Option V) (mm:Nat) (fs:List (Key×V)) (os:List Int),σ = [some (.ref rp),some (.int first),some (.ref fd0),some (.ref wt),v4,v5]/\m=n.toNat - mm/\aD H H3/\H3 fd0=some (.dK fs)/\H3 wt=some (.lst ((os.drop mm).map V.int))/\Tree Ed n first H3 fs os/\mm<=os.length /\
    ∀ (i:Nat) (g:Int),i < mm->os[i]?=some g->∀ w t,Ed g w t->t∈os,
   ⟨n.toNat - 0,none,none,0,_,[first],rfl,rfl,s2,e2,w2,Tree.one hf0 hf1,Jj _,fun i g hi=>absurd hi (Yd _)⟩,?_⟩
  rintro m σ H3 ⟨v4,v5,mm,fs,os,rfl,rfl,s3,e3,w3,T3,hmm,pr3⟩
  refine ⟨_,rfl,!((os.drop mm).map V.int).isEmpty,.inl ⟨_,SqL.of w3,rfl⟩,?_⟩
  by_cases hend:mm < os.length
  ·-- a turn
   have hne:(os.drop mm)≠[]:=by
    intro z
    have:=congrArg Yz z
    rw [Zi] at this
    simp at this
    omega
   have hb:(!((os.drop mm).map V.int).isEmpty)=true:=by
    cases q:os.drop mm with
    | nil=>exact absurd q hne
    | cons _ _=>rfl
   rw [hb]
   refine hZ ?_
   have hdrop:os.drop mm=os[mm]::os.drop (mm+1):=Yv hend
   have hgm:os[mm]?=some (os[mm]):=Qc hend
   generalize os[mm]=g at hdrop hgm
   obtain ⟨hg0,hg1⟩:=T3.rng g (Qe hgm)
   have holen:=T3.len
   refine ⟨fun σ' H'=>∃ m',m' < n.toNat - mm/\∃ (v4 v5:Option V) (mm:Nat) (fs:List (Key×V)) (os:List Int),σ' = [some (.ref rp),some (.int first),some (.ref fd0),some (.ref wt),v4,v5]/\m'=n.toNat - mm/\aD H H'/\H' fd0=some (.dK fs)/\H' wt=some (.lst ((os.drop mm).map V.int))/\Tree Ed n first H' fs os/\mm<=os.length /\
    ∀ (i:Nat) (g:Int),i < mm->os[i]?=some g->∀ w t,Ed g w t->t∈os,fun σ' H' z=>z,?_⟩
   refine ⟨_,rfl,.inl ⟨rfl,_,SqL.of w3⟩,?_⟩
   have hx0:((os.drop mm).map V.int)[0]?=some (.int g):=by rw [hdrop]; rfl
   have hxl:0 < ((os.drop mm).map V.int).length:=(Qd.mp hx0).1
   refine ⟨wt,_,0,0,.int g,rfl,rfl,w3,by decide,by decide,wI (i:=0) (by decide) hxl,hx0,?_⟩
   have her:((os.drop mm).map V.int).eraseIdx 0=(os.drop (mm+1)).map V.int:=by rw [hdrop]; rfl
   rw [her]
   have s4:=s3.wr (u:=.lst ((os.drop (mm+1)).map V.int)) hwt0
   have e4:upd H3 wt (.lst ((os.drop (mm+1)).map V.int)) fd0=some (.dK fs):=by rw [aK nfw]; exact e3
   have w4:upd H3 wt (.lst ((os.drop (mm+1)).map V.int)) wt=some (.lst ((os.drop (mm+1)).map V.int)):=aB
   have T4:=T3.tp (Tp.upd (a:=wt) (u:=.lst ((os.drop (mm+1)).map V.int)) fun xs z=>by rw [w3] at z; cases z)
   generalize upd H3 wt (.lst ((os.drop (mm+1)).map V.int))=H4 at s4 e4 w4 T4 ⊢
   -- the row
   have R4:=R.same s4
   have hgl:g.toNat < qs.length:=by rw [R.len,hlr]; omega
   have hcast:((g.toNat:Nat):Int)=g:=by omega
   obtain ⟨qg,hqg⟩:∃ q,qs[g.toNat]?=some q:=⟨_,Qc hgl⟩
   obtain ⟨r,hr⟩:∃ r,rs[g.toNat]?=some r:=⟨_,Qc (by rw [hlr]; omega)⟩
   have hat:atI (qs.map V.ref) g=some (.ref qg):=by
    have:=bX (xs:=qs.map V.ref) (j:=g.toNat) (v:=.ref qg) (by rw [Qh,hqg]; rfl)
    rwa [hcast] at this
   have hrow:=R.row _ _ _ hqg hr
   have hrow4:=s4 _ _ hrow
   obtain ⟨hRE,hRl⟩:=ER _ _ hr
   rw [hcast] at hRE
   have nqf:qg≠fd0:=fun z=>by rw [z,hfd0] at hrow; cases hrow
   have nqw:qg≠wt:=fun z=>by rw [z,hwt0] at hrow; cases hrow
   have nqr:rp≠qg:=fun z=>by have:=R.lst; rw [z,hrow] at this; cases this
   refine ⟨_,rfl,_,rfl,rp,_,g,_,rfl,rfl,SqL.of R4.lst,hat,qg,r,rfl,hrow4,fun o nf=>?_⟩
   have z5:upd H4 qg (.frz o (.dK r)) qg=some (.frz o (.dK r)):=aB
   have b5:But qg H (upd H4 qg (.frz o (.dK r))):=fun b u nb hb=>by rw [aK nb]; exact s4 _ _ hb
   have e5:upd H4 qg (.frz o (.dK r)) fd0=some (.dK fs):=by rw [aK (Ne.symm nqf)]; exact e4
   have w5:upd H4 qg (.frz o (.dK r)) wt=some (.lst ((os.drop (mm+1)).map V.int)):=by rw [aK (Ne.symm nqw)]; exact w4
   have T5:=T4.tp (Tp.upd (a:=qg) (u:=.frz o (.dK r)) fun xs z=>by rw [hrow4] at z; cases z)
   generalize upd H4 qg (.frz o (.dK r))=H5 at z5 b5 e5 w5 T5 ⊢
   refine yQ (a:=qg) (o:=o) (kvs:=r) (fun j σ H6=>∃ (v5:Option V) (fs:List (Key×V)) (os:List Int),σ = [some (.ref rp),some (.int first),some (.ref fd0),some (.ref wt),some (.int g),v5]/\H6 qg=some (.frz o (.dK r))/\But qg H H6/\H6 fd0=some (.dK fs)/\H6 wt=some (.lst ((os.drop (mm+1)).map V.int))/\Tree Ed n first H6 fs os/\mm+1<=os.length/\os[mm]?=some g /\
     (∀ (i:Nat) (g:Int),i < mm->os[i]?=some g->∀ w t,Ed g w t->t∈os)/\∀ (i:Nat) k v t,i < j->r[i]?=some (k,v)->k=.inl t->t∈os)
    ⟨v5,fs,os,rfl,z5,b5,e5,w5,T5,hend,hgm,pr3,fun i k v t hi=>absurd hi (Yd _)⟩ (fun j σ H6 _ ⟨_,_,_,_,h,_⟩=>h) ?_ ?_
   ·rintro j ⟨key,val⟩ σ H6 hj ⟨v5,fs,os,rfl,z6,b6,e6,w6,T6,hl6,hg6,pr6,dn6⟩
    -- the key is a hand,its value a work
    obtain ⟨val',hval⟩:∃ v,cB r key=some v:=by
     have:(cB r key).isSome=true:=by
      rw [<- fG,Jq]
      exact ⟨_,Qe hj,by simp⟩
     cases q:cB r key with
     | none=>rw [q] at this; cases this
     | some v=>exact ⟨v,rfl⟩
    obtain ⟨wk,t,rfl,rfl,hE⟩:=hRE.1 _ _ hval
    obtain ⟨ht0,ht1⟩:=hedge _ _ _ hE
    dsimp only [kV]
    have dn:∀ (os':List Int),t∈os'->(∀ x∈os,x∈os')->∀ (i:Nat) k v t',i < j+1->r[i]?=some (k,v)->k=.inl t'->t'∈os':=fun os' h1 h2 i k v t' hi hk he=>by
     by_cases hij:i < j
     ·exact h2 _ (dn6 i k v t' hij hk he)
     ·have:i=j:=by omega
      subst this
      rw [hj] at hk
      cases hk
      have:t=t':=by simpa using he
      rw [<- this]; exact h1
    refine ⟨_,rfl,_,rfl,fd0,_,rfl,sR.k (k:=.inl t) e6,_,rfl,?_⟩
    rw [rV T6.keys]
    by_cases htm:t∈os
    ·rw [decide_eq_true htm]
     refine gR ?_
     exact ⟨_,fs,os,rfl,z6,b6,e6,w6,T6,hl6,hg6,pr6,dn os htm fun _ h=>h⟩
    ·rw [decide_eq_false htm]
     refine hZ ?_
     have hR6:H6 rp=some (.lst (qs.map V.ref)):=b6 _ _ nqr R.lst
     refine ⟨_,rfl,_,rfl,rp,_,g,_,rfl,rfl,SqL.of hR6,hat,_,rfl,qg,.int (wk:Nat),rfl,.inl ⟨r,.inl t,.inr ⟨o,z6⟩,rfl,hval.symm⟩,_,rfl,_,rfl,cA (show 3<=1000 by decide),fun p hp=>?_⟩
     have sp:=aD.new (o:=.tup [.int (wk:Nat),.int g,.int t]) hp
     have ep:upd H6 p (.tup [.int (wk:Nat),.int g,.int t]) p=_:=aB
     have b7:But qg H (upd H6 p (.tup [.int (wk:Nat),.int g,.int t])):=b6.trans (But.of sp)
     have z7:=sp _ _ z6
     have e7:=sp _ _ e6
     have w7:=sp _ _ w6
     have T7:=T6.tp (Tp.of sp)
     generalize upd H6 p (.tup [.int (wk:Nat),.int g,.int t])=H7 at sp ep b7 z7 e7 w7 T7 ⊢
     have hv:cB fs (.inl t)=none:=by
      have:=rV T7.keys t
      rw [decide_eq_false htm] at this
      cases q:cB fs (.inl t) with
      | none=>rfl
      | some v=>rw [q] at this; cases this
     have T7l:=T7.len
     have T7f:=T7.flen
     have T8:=T7.grow ep hE hg6 htm ht0 ht1
     have hput:eP fs (.inl t) (.ref p)=fs++[(.inl t,.ref p)]:=yM _ hv
     refine ⟨_,rfl,_,rfl,fd0,_,rfl,sS.k (k:=.inl t) e7 (by rw [sizeLine_eq]; omega),?_⟩
     rw [hput]
     have b8:But qg H (upd H7 fd0 (.dK (fs++[(.inl t,.ref p)]))):=fun b u nb hb=>by
      rw [aK (fun z=>by rw [z,hfd0] at hb; cases hb)]
      exact b7 b u nb hb
     have z8:upd H7 fd0 (.dK (fs++[(.inl t,.ref p)])) qg=some (.frz o (.dK r)):=by rw [aK nqf]; exact z7
     have e8:upd H7 fd0 (.dK (fs++[(.inl t,.ref p)])) fd0=_:=aB
     have w8:upd H7 fd0 (.dK (fs++[(.inl t,.ref p)])) wt=some (.lst ((os.drop (mm+1)).map V.int)):=by rw [aK (Ne.symm nfw)]; exact w7
     have T8':=T8.tp (Tp.upd (a:=fd0) (u:=.dK (fs++[(.inl t,.ref p)])) fun xs z=>by rw [e7] at z; cases z)
     generalize upd H7 fd0 (.dK (fs++[(.inl t,.ref p)]))=H8 at b8 z8 e8 w8 T8' ⊢
     refine ⟨_,rfl,.inl ⟨rfl,_,SqL.of w8⟩,_,rfl,wt,_,.int t,rfl,rfl,w8,by rw [Qb,Zi,sizeLine_eq]; omega,?_⟩
     have hdr:(os.drop (mm+1)).map V.int++[V.int t]=((os++[t]).drop (mm+1)).map V.int:=by
      rw [List.drop_append_of_le_length hl6,Qr]; rfl
     rw [hdr]
     refine ⟨_,_,os++[t],rfl,by rw [aK nqw]; exact z8,fun b u nb hb=>?_,by rw [aK nfw]; exact e8,aB,T8'.tp (Tp.upd fun xs z=>by rw [w8] at z; cases z),by rw [Qt]; omega,by rw [Ji (by omega)]; exact hg6,fun i g' hi hg' w t' e'=>?_,dn _ (by simp) fun x hx=>Ju _ hx⟩
     ·rw [aK (fun z=>by rw [z,hwt0] at hb; cases hb)]
      exact b8 b u nb hb
     ·rw [Ji (by omega)] at hg'
      exact Ju _ (pr6 i g' hi hg' w t' e')
   ·rintro σ H6 ⟨v5,fs,os,rfl,z6,b6,e6,w6,T6,hl6,hg6,pr6,dn6⟩
    refine ⟨qg,o,r,z6,nf,?_⟩
    have hole:=T6.len
    have s7:aD H (upd H6 qg (.dK r)):=fun b u hb=>by
     by_cases hbq:b=qg
     ·rw [hbq] at hb ⊢
      rw [aB,<- hrow]; exact hb
     ·rw [aK hbq]; exact b6 b u hbq hb
    refine ⟨n.toNat - (mm+1),by omega,_,_,mm+1,fs,os,rfl,rfl,s7,by rw [aK (Ne.symm nqf)]; exact e6,by rw [aK (Ne.symm nqw)]; exact w6,T6.tp (Tp.upd fun xs z=>by rw [z6] at z; cases z),hl6,fun i g' hi hg' w t e=>?_⟩
    by_cases him:i < mm
    ·exact pr6 i g' him hg' w t e
    ·have:i=mm:=by omega
     subst this
     rw [hg6] at hg'
     cases hg'
     have hs:=hRE.2 w t e
     rw [<- fG,Jq] at hs
     obtain ⟨⟨k,v⟩,hk,he⟩:=hs
     obtain ⟨j,hj⟩:=Xa.mp hk
     exact dn6 j k v t (Qd.mp hj).1 hj (by simpa using he)
  ·have hlen:mm=os.length:=by omega
   have hb:(!((os.drop mm).map V.int).isEmpty)=false:=by rw [hlen,List.drop_length]; rfl
   rw [hb]
   refine gR ?_
   refine ⟨_,rfl,k fd0 H3 fs os s3 hfd0 e3 T3 fun g hg w t e=>?_⟩
   obtain ⟨i,hi⟩:=Xa.mp hg
   exact pr3 i g (by have:=(Qd.mp hi).1; omega) hi w t e
structure StepsAt (H:Hp) (ps:List Addr) (ss:List (Nat×Int×Int)):Prop where
 len:ps.length=ss.length
 at_:∀ (i:Nat) p s,ps[i]?=some p->ss[i]?=some s->H p=some (.tup [.int (s.1:Nat),.int s.2.1,.int s.2.2])
theorem StepsAt.nil:StepsAt H [] []:=⟨rfl,fun i p s h=>by simp at h⟩
theorem StepsAt.cons {ps:List Addr} (h:StepsAt H ps ss) {w:Nat} {g t:Int} (hp:H p=some (.tup [.int (w:Nat),.int g,.int t])):StepsAt H (p::ps) ((w,g,t)::ss):=by
 refine ⟨by rw [Jn,Jn,h.len],fun i p' s h1 h2=>?_⟩
 cases i with
 | zero =>
  have e1:p=p':=by simpa using h1
  have e2:(w,g,t)=s:=by simpa using h2
  subst e1 e2
  exact hp
 | succ i=>exact h.at_ i p' s (by simpa using h1) (by simpa using h2)
theorem StepsAt.tp {ps:List Addr} (h:StepsAt H ps ss) (e:Tp H H'):StepsAt H' ps ss:=⟨h.len,fun i p s a b=>e _ _ (h.at_ i p s a b)⟩
def xE (K:PySem.W.Frag):Sp:=fun vs H Q _=>∃ fdp last fs os first n Ed jl,vs = [.ref fdp,.int last]/\H fdp=some (.dK fs)/\Tree Ed n first H fs os/\n<=100/\os[jl]?=some last /\
 ∀ p H' ps ss,aD H H'->H p=none->H' p=some (.lst (ps.map V.ref))->StepsAt H' ps ss->tN Ed first ss last->(vtx first ss).Nodup->(∀ s∈ss,s.2.2∈os)->(0 < jl->ss≠[])->Q (.ref p) H'
theorem rW:FnScope ["found", "last", "some", "step"] ["found", "last"] (aI wP):=⟨rfl,rfl,rfl,by decide +kernel,rfl,by decide +kernel,by decide +kernel⟩
theorem aDt (G:Fn K mg "way_to" wP ["found", "last"] f fd) (B:Bl mg):FnOk P w K mg base CX0 1 f fd ["found", "last"] (xE K):=by
 refine G.fn.ok rW (fun vs H Q E h=>?_) (fun cdv A outer s H vs Q E hr h=>?_)
 ·obtain ⟨fdp,last,fs,os,first,n,Ed,jl,rfl,_⟩:=h
  rfl
 ·obtain ⟨fdp,last,fs,os,first,n,Ed,jl,rfl,hfd,T,hn6,hjl,k⟩:=h
  refine ⟨_,(aE (aS (i:=2) rW.nd rfl (Or.inl rfl) (cI aC))
   (aE (aS (i:=3) rW.nd rfl (Or.inl rfl) (lJ (lW hr) (pv 0) (pv 1) (fun _ _=>rfl)))
   (aE (kI PassesOwn.never (aCp (aDY (pv 3)))
    (aE (gM (kL PySem.F.plainAttrs_list PySem.F.slot_list_append PySem.F.type_list_append fY (pv 2) (aA (pv 3) aC)))
    (aJ (aS (i:=3) rW.nd rfl (Or.inl rfl) (lJ (lW hr) (pv 0) (aT bO (pv 3) aG (fun _ _=>rfl)) (fun _ _=>rfl))))))
   (aJ (aR (aAV (pv 2) (oK lE aG))))))),?_⟩
  have Tl:=T.len
  have hnsz:n.toNat < sizeLine:=by rw [sizeLine_eq]; omega
  refine ⟨cA (show 0<=1000 by decide),fun sm hsm=>?_⟩
  have s1:=aD.new (o:=.lst []) hsm
  have e1:upd H sm (.lst []) sm=some (.lst []):=aB
  generalize upd H sm (.lst [])=H1 at s1 e1 ⊢
  -- what stands at a found hand
  have vals:∀ (j:Nat) (t:Int),os[j]?=some t->∃ v,cB fs (.inl t)=some v/\((j=0/\v=.non)∨∃ p w g i,0 < j/\v=.ref p/\H p=some (.tup [.int (w:Nat),.int g,.int t])/\Ed g w t/\i < j/\os[i]?=some g):=fun j t ht=>by
   by_cases hj:j=0
   ·subst hj
    rw [T.head] at ht
    cases ht
    exact ⟨_,T.v0,.inl ⟨rfl,rfl⟩⟩
   ·obtain ⟨p,w,g,i,a,b,c,d,e⟩:=T.par j t (by omega) ht
    exact ⟨_,a,.inr ⟨p,w,g,i,by omega,rfl,b,c,d,e⟩⟩
  obtain ⟨v0,hv0,_⟩:=vals jl last hjl
  refine ⟨_,rfl,_,rfl,fdp,v0,rfl,.inl ⟨fs,.inl last,.inl (s1 _ _ hfd),rfl,hv0.symm⟩,?_⟩
  refine ⟨fun m σ H2=>∃ (j:Nat) (t:Int) (v:V) (rps:List Addr) (ss:List (Nat×Int×Int)),m=j/\σ = [some (.ref fdp),some (.int last),some (.ref sm),some v]/\os[j]?=some t/\cB fs (.inl t)=some v/\aD H H2/\H2 sm=some (.lst (rps.map V.ref))/\StepsAt H2 rps.reverse ss/\tN Ed t ss last/\(t::ss.map (·.2.2)).Nodup /\
    (∀ x∈ss.map (·.2.2),∃ i:Nat,j < i/\os[i]?=some x)/\rps.length+j<=jl/\(j < jl->ss≠[]),
   ⟨jl,jl,last,v0,[],[],rfl,rfl,hjl,hv0,s1,e1,StepsAt.nil,rfl,by simp,fun x h=>by simp at h,by simp,fun h=>by omega⟩,?_⟩
  rintro j σ H2 ⟨_,t,v,rps,ss,rfl,rfl,hj,hv,s2,e2,S2,P2,N2,I2,L2',L3⟩
  have hjo:jl < os.length:=(Qd.mp hjl).1
  obtain ⟨v',hv',cs⟩:=vals j t hj
  rw [hv] at hv'
  cases hv'
  rcases cs with ⟨rfl,rfl⟩ | ⟨p,w,g,i,hj0,rfl,hp,hE,hij,hg⟩
  ·refine ⟨_,rfl,_,rfl,?_⟩
   refine gR ?_
   rw [T.head] at hj
   cases hj
   refine ⟨_,rfl,_,rfl,rfl,sm,_,rfl,SqL.of e2,fun p hp=>?_⟩
   have s3:=aD.new (o:=.lst (rps.map V.ref).reverse) hp
   refine k p _ rps.reverse ss (s2.trans s3) (s2.free hp) (by rw [aB,List.map_reverse]) (S2.tp (Tp.of s3)) P2 N2 (fun x hx=>?_) L3
   obtain ⟨i,_,hi⟩:=I2 _ (Qz.mpr ⟨x,hx,rfl⟩)
   exact Qe hi
  ·refine ⟨_,rfl,_,rfl,?_⟩
   refine hZ ?_
   obtain ⟨vg,hvg,_⟩:=vals i g hg
   refine ⟨fun σ' H'=>∃ m',m' < j/\∃ (j:Nat) (t:Int) (v:V) (rps:List Addr) (ss:List (Nat×Int×Int)),m'=j/\σ' = [some (.ref fdp),some (.int last),some (.ref sm),some v]/\os[j]?=some t/\cB fs (.inl t)=some v/\aD H H'/\H' sm=some (.lst (rps.map V.ref))/\StepsAt H' rps.reverse ss/\tN Ed t ss last/\(t::ss.map (·.2.2)).Nodup /\
    (∀ x∈ss.map (·.2.2),∃ i:Nat,j < i/\os[i]?=some x)/\rps.length+j<=jl/\(j < jl->ss≠[]),fun σ' H' z=>z,?_⟩
   have hsz:(rps.map V.ref).length < sizeLine:=by
    rw [Qb]
    exact Jy (Qu (Qu (Zl _ _) L2') (Qu (Ze hjo) Tl)) hnsz
   refine ⟨_,rfl,.inl ⟨rfl,_,SqL.of e2⟩,_,rfl,sm,_,.ref p,rfl,rfl,e2,hsz,?_⟩
   have s3:aD H (upd H2 sm (.lst (rps.map V.ref++[.ref p]))):=s2.wr hsm
   have e3:upd H2 sm (.lst (rps.map V.ref++[.ref p])) sm=_:=aB
   have S3:=S2.tp (Tp.upd (a:=sm) (u:=.lst (rps.map V.ref++[.ref p])) fun xs z=>by rw [e2] at z; cases z)
   generalize upd H2 sm (.lst (rps.map V.ref++[.ref p]))=H3 at s3 e3 S3 ⊢
   have hp3:=s3 _ _ hp
   refine ⟨_,rfl,_,rfl,p,_,1,.int g,rfl,rfl,SqT.of hp3,rfl,fdp,vg,rfl,.inl ⟨fs,.inl g,.inl (s3 _ _ hfd),rfl,hvg.symm⟩,?_⟩
   refine ⟨i,hij,i,g,vg,rps++[p],(w,g,t)::ss,rfl,rfl,hg,hvg,s3,by rw [Qr]; exact e3,?_,⟨rfl,hE,P2⟩,?_,?_,?_,fun _=>by simp⟩
   ·rw [List.reverse_append]
    exact S3.cons hp3
   ·show (g::t::ss.map (·.2.2)).Nodup
    rw [Xr]
    refine ⟨fun hm=>?_,N2⟩
    have inj:∀ i',i < i'->os[i']?=some g->False:=fun i' h1 h2=>by
     have:=(Yg (Qd.mp hg).1 T.nd).mp (hg.trans h2.symm)
     omega
    rcases Qj.mp hm with e | hm
    ·exact inj j hij (by rw [e]; exact hj)
    ·obtain ⟨i',h1,h2⟩:=I2 g hm
     exact inj i' (by omega) h2
   ·intro x hx
    rcases Qj.mp (show x∈t::ss.map (·.2.2) from hx) with rfl | hx
    ·exact ⟨j,hij,hj⟩
    ·obtain ⟨i',h1,h2⟩:=I2 x hx
     exact ⟨i',by omega,h2⟩
   ·rw [Qt]
    show rps.length+1+i<=jl
    omega
def pI (r:List (Key×V)) (n:Int):Prop:=∃ os:List Int,r.map (·.1)=os.map Sum.inl/\os.Nodup/\∀ o∈os,0<=o/\o < n
theorem pI.nil {n:Int}:pI [] n:=⟨[],rfl,Wn,fun _ h=>(Qq h).elim⟩
theorem pI.len {n:Int} (h:pI r n):r.length<=n.toNat:=by
 obtain ⟨os,e,nd,rg⟩:=h
 have:=congrArg Yz e
 rw [Qb,Qb] at this
 rw [this]
 exact kT _ _ nd fun x hx=>by have:=rg x hx; omega
theorem pI.key {n:Int} (h:pI r n) {k:Key} (hk:(cB r k).isSome=true):∃ t,k=.inl t/\0<=t/\t < n:=by
 obtain ⟨os,e,nd,rg⟩:=h
 rw [<- fG,Jq] at hk
 obtain ⟨kv,h1,h2⟩:=hk
 have h3:kv.1∈r.map (·.1):=Qz.mpr ⟨kv,h1,rfl⟩
 rw [e] at h3
 obtain ⟨o,ho,he⟩:=Qz.mp h3
 exact ⟨o,by rw [<- of_decide_eq_true h2,<- he],rg o ho⟩
theorem pI.put {n:Int} (h:pI r n) {t:Int} (v:V) (h0:0<=t) (h1:t < n):pI (eP r (.inl t) v) n:=by
 obtain ⟨os,e,nd,rg⟩:=h
 have mv:=rV e t
 by_cases c:t∈os
 ·refine ⟨os,?_,nd,rg⟩
  have:(eP r (.inl t) v).map (·.1)=r.map (·.1):=by
   unfold eP
   rw [fG,mv,decide_eq_true c,if_pos rfl,Zb]
   refine Xz fun kv _=>?_
   show (if kv.1=Sum.inl t then _ else _:Key×V).1=kv.1
   split
   ·rfl
   ·rfl
  rw [this]; exact e
 ·have hv:cB r (.inl t)=none:=by
   rw [decide_eq_false c] at mv
   cases q:cB r (.inl t) with
   | none=>rfl
   | some v=>rw [q] at mv; cases mv
  refine ⟨os++[t],by rw [yM _ hv,Qr,Qr,e]; rfl,?_,fun o ho=>?_⟩
  ·rw [Yh]
   exact ⟨nd,by simp,fun x hx y hy z=>c (by rw [<- Qi.mp hy,<- z]; exact hx)⟩
  ·rcases Jg.mp ho with h | h
   ·exact rg o h
   ·rw [Qi.mp h]; exact ⟨h0,h1⟩
structure HeldR (r:List (Key×V)) (f:Int->Int) (n:Nat):Prop where
 rn:pI r (n+1)
 val:∀ h v,cB r (.inl h)=some v->v=.int (f h)
 non:∀ h,cB r (.inl h)=none->f h=0
 nob:(cB r (.inl (n:Int))).isSome=true
def xF (hds:List (List (Key×V))) (hl:Nat->Int->Int) (n:Nat):Prop:=∀ w r,hds[w]?=some r->HeldR r (hl w) n
structure LLs (H:Hp) (tp:Addr) (tps:List Addr) (tk:List (List Int)):Prop where
 lst:H tp=some (.lst (tps.map V.ref))
 len:tps.length=tk.length
 row:∀ (w:Nat) q l,tps[w]?=some q->tk[w]?=some l->H q=some (.lst (l.map V.int))
theorem LLs.same {tp:Addr} {tps:List Addr} (h:LLs H tp tps tk) (s:aD H H'):LLs H' tp tps tk:=⟨s _ _ h.lst,h.len,fun w q l a b=>s _ _ (h.row w q l a b)⟩
theorem LLs.but {tp t:Addr} {tps:List Addr} (h:LLs H tp tps tk) (s:But t H H') (ht:∀ xs,H t≠some (.lst xs)):LLs H' tp tps tk :=
 ⟨s _ _ (fun z=>ht _ (z ▸ h.lst)) h.lst,h.len,fun w q l a b=>s _ _ (fun z=>ht _ (z ▸ h.row w q l a b)) (h.row w q l a b)⟩
theorem aEL {w:Nat} (h:tk[w]?=some l):nO tk w=l:=by unfold nO; rw [Jd,h]; rfl
def xG (K:PySem.W.Frag):Sp:=fun vs H Q _=>∃ (tp hp:Addr) (tps ds:List Addr) (tk:List (List Int)) (hds:List (List (Key×V))) (hl:Nat->Int->Int) (n:Nat),vs = [.ref tp,.ref hp,.int ((n+1:Nat):Int)]/\LLs H tp tps tk/\Rows H hp ds hds/\hds.length=tk.length/\xF hds hl n/\n < 100/\(∀ w,∀ h∈nO tk w,0<=h/\h < n) /\
 ∀ rp H' qs rs,aD H H'->Rows H' rp qs rs->rs.length=n+1->aFm (EdP tk hl) rs 1000->Q (.ref rp) H'
theorem nI:FnScope ["takers", "held", "many", "rows", "work", "row", "giver", "taker"] ["takers", "held", "many"] (aI tG):=⟨rfl,rfl,rfl,by decide +kernel,rfl,by decide +kernel,by decide +kernel⟩
theorem aDu (G:Fn K mg "handing_parts" tG ["takers", "held", "many"] f fd) (B:Bl mg):FnOk P w K mg base CX0 1 f fd ["takers", "held", "many"] (xG K):=by
 refine G.fn.ok nI (fun vs H Q E h=>?_) (fun cdv A outer s H vs Q E hr h=>?_)
 ·obtain ⟨tp,hp,tps,ds,tk,hds,hl,n,rfl,_⟩:=h
  rfl
 ·obtain ⟨tp,hp,tps,ds,tk,hds,hl,n,rfl,L,D,hdl,HO,hn,htk,k⟩:=h
  refine ⟨_,(aE (eX (i:=3) (own:=["hand"]) (fr:=[]) (frn:=[]) (aW (aI tG) ["takers", "held", "many", "rows", "work", "row", "giver", "taker"] rfl rfl (by decide +kernel)) rfl nI.nd rfl rfl rfl (cT rfl B.range (aA (pv 2) aC))
    (fun _ _ _ _=>(aM (i:=0) (show (["hand"]:List Str).Nodup by decide +kernel) rfl (Or.inl rfl))) (fun _ _ _ _=>cJ)
    (fun _ _ _ _=>aCU))
  (aE (cU PassesOwn.never rfl (wC .l rfl B.enumerate (aA (pv 1) aC)) (kE rfl (aX (aM (i:=4) nI.nd rfl (Or.inl rfl)) (aX (aM (i:=5) nI.nd rfl (Or.inl rfl)) dQ)))
   (aJ (aAX (cU PassesOwn.never rfl (wH (pv 5)) (aM (i:=6) nI.nd rfl (Or.inl rfl))
   (aJ (cX (bF mD (lJ (lW hr) (pv 5) (pv 6) (fun _ _=>rfl)) aG (bK _))
   (aJ (cU PassesOwn.never rfl (cN (aT eD (pv 0) (pv 4) (fun _ _=>rfl))) (aM (i:=7) nI.nd rfl (Or.inl rfl))
   (aJ (wG (lW hr) (aT eD (pv 3) (pv 6) (fun _ _=>rfl)) (pv 7) (pv 4) rfl))))
   bM))))))
  (aJ (aR (pv 3))))),?_⟩
  refine ⟨_,rfl,_,rfl,by omega,by omega,eY (lo:=0) (n:=(((n+1:Nat):Int)).toNat) (fun σ=>∃ v,σ = [v]) (fun i zs H2=>∃ qs:List Addr,zs=qs.map V.ref/\qs.length=i/\aD H H2/\qs.Nodup/\∀ q∈qs,H q=none/\H2 q=some (.dK [])) ?_ ⟨none,rfl⟩ ⟨[],rfl,rfl,aD.refl H,Wn,fun _ h=>(Qq h).elim⟩ ?_ ?_ ?_⟩
  ·rw [sizeLine_eq]; omega
  ·rintro i zs H2 ⟨qs,rfl,hq,_⟩
   rw [Qb]; omega
  ·rintro i zs σ H2 hi ⟨v,rfl⟩ ⟨qs,rfl,hq,s2,nd,hqs⟩ hz
   refine eL ?_
   intro p hp
   refine ⟨hz,⟨_,rfl⟩,qs++[p],by rw [Qr]; rfl,by rw [Qt,hq]; rfl,s2.trans (aD.new hp),?_,fun q hq'=>?_⟩
   ·rw [Yh]
    refine ⟨nd,by simp,fun x hx y hy e=>?_⟩
    rw [Qi.mp hy] at e
    have:=(hqs x hx).2
    rw [e,hp] at this; cases this
   ·rcases Jg.mp hq' with h | h
    ·exact ⟨(hqs q h).1,(aD.new hp) _ _ (hqs q h).2⟩
    ·rw [Qi.mp h]
     exact ⟨s2.free hp,aB⟩
  ·rintro zs H2 ⟨qs,rfl,hq,s2,nd,hqs⟩ rp hrp
   have eN:(((n+1:Nat):Int)).toNat=n+1:=by omega
   rw [eN] at hq
   have s3:=s2.trans (aD.new (o:=.lst (qs.map V.ref)) hrp)
   have hrp0:H rp=none:=s2.free hrp
   have R3:Rows (upd H2 rp (.lst (qs.map V.ref))) rp qs (List.replicate (n+1) []):=⟨aB,by rw [Xo]; exact hq,nd,fun g q r h1 h2=>by
    rw [Xu] at h2
    split at h2
    ·rw [<- Option.some.inj h2]
     exact (aD.new hrp) _ _ (hqs q (Qe h1)).2
    ·cases h2⟩
   generalize upd H2 rp (.lst (qs.map V.ref))=H3 at s3 R3 ⊢
   have D3:=D.same s3
   refine ⟨_,rfl,hp,_,rfl,SqL.of D3.lst,aCQ (K:=K) (k:=.l) (a:=hp) (xs:=ds.map V.ref)
    (fun i σ H4=>(∃ v4 v5 v6 v7,σ = [some (.ref tp),some (.ref hp),some (.int ((n+1:Nat):Int)),some (.ref rp),v4,v5,v6,v7])/\aD H H4/\∃ rs,Rows H4 rp qs rs/\rs.length=n+1/\∀ (g:Nat) r,rs[g]?=some r->pI r n/\qL (fun w t=>w < i/\EdP tk hl g w t) r)
    ⟨⟨_,_,_,_,rfl⟩,s3,_,R3,Xo,fun g r hr=>?_⟩ (fun _ σ H4 _ ⟨_,s4,_⟩=>SqL.of (s4 _ _ D.lst)) ?_ ?_⟩
   ·rw [Xu] at hr
    split at hr
    ·rw [<- Option.some.inj hr]
     exact ⟨pI.nil,qL.nil fun w t h=>by omega⟩
    ·cases hr
   ·rintro i x p σ H4 hx ⟨⟨v4,v5,v6,v7,rfl⟩,s4,rs,R4,hl4,E4⟩ hp'
    rw [Qh] at hx
    obtain ⟨d,hd,rfl⟩:=Je.mp hx
    have hi:i < hds.length:=by rw [<- D.len]; exact (Qd.mp hd).1
    have hri:hds[i]?=some hds[i]:=Qc hi
    generalize hds[i]=r at hri
    have hrow:=D.row i d r hd hri
    obtain ⟨hrn,hval,hnon,_⟩:=HO i r hri
    have sp:=aD.new (o:=.tup [.int (i:Nat),.ref d]) hp'
    have ep:upd H4 p (.tup [.int (i:Nat),.ref d]) p=some (.tup [.int (i:Nat),.ref d]):=aB
    have s5:=s4.trans sp
    have R5:=R4.same sp
    generalize upd H4 p (.tup [.int (i:Nat),.ref d])=H5 at sp ep s5 R5 ⊢
    refine ⟨p,_,rfl,SqT.of ep,rfl,_,_,rfl,_,_,rfl,rfl,?_⟩
    have hlt:i < tk.length:=by rw [<- hdl]; exact hi
    have hli:tk[i]?=some tk[i]:=Qc hlt
    generalize tk[i]=l at hli
    have etk:=aEL hli
    have hti:i < tps.length:=by rw [L.len]; exact hlt
    have htq:tps[i]?=some tps[i]:=Qc hti
    generalize tps[i]=tq at htq
    have hlq:=L.row i tq l htq hli
    have nd':∀ xs,H d≠some (.lst xs):=fun xs z=>by rw [hrow] at z; cases z
    have nqd:∀ q∈qs,q≠d:=fun q hq z=>by have:=(hqs q hq).1; rw [z,hrow] at this; cases this
    have nrd:rp≠d:=fun z=>by rw [z,hrow] at hrp0; cases hrp0
    refine ⟨_,rfl,d,r,rfl,s5 _ _ hrow,fun o nf=>?_⟩
    have z6:upd H5 d (.frz o (.dK r)) d=some (.frz o (.dK r)):=aB
    have b6:But d H (upd H5 d (.frz o (.dK r))):=fun b u nb hb=>by rw [aK nb]; exact s5 _ _ hb
    have R6:Rows (upd H5 d (.frz o (.dK r))) rp qs rs:=⟨by rw [aK nrd]; exact R5.lst,R5.len,R5.nd,fun g q r' a b=>by rw [aK (nqd q (Qe a))]; exact R5.row g q r' a b⟩
    generalize upd H5 d (.frz o (.dK r))=H6 at z6 b6 R6 ⊢
    refine yQ (a:=d) (o:=o) (kvs:=r) (fun j σ H7=>(∃ v6 v7,σ = [some (.ref tp),some (.ref hp),some (.int ((n+1:Nat):Int)),some (.ref rp),some (.int (i:Nat)),some (.ref d),v6,v7])/\H7 d=some (.frz o (.dK r))/\But d H H7/\∃ rs,Rows H7 rp qs rs/\rs.length=n+1/\∀ (g:Nat) r',rs[g]?=some r'->pI r' n/\qL (fun w t=>(w < i/\EdP tk hl g w t)∨(w=i/\0 < hl i g/\t∈l/\∃ (j':Nat) (kv:Key×V),j' < j/\r[j']?=some kv/\kv.1=.inl (g:Int))) r')
     ⟨⟨_,_,rfl⟩,z6,b6,rs,R6,hl4,fun g r' hr'=>⟨(E4 g r' hr').1,(E4 g r' hr').2.congr fun w t=>⟨.inl,fun z=>z.elim id fun ⟨_,_,_,j',_,hj,_⟩=>by omega⟩⟩⟩ (fun j σ H7 _ ⟨_,h,_⟩=>h) ?_ ?_
    ·rintro j ⟨key,val⟩ σ H7 hj ⟨⟨v6,v7,rfl⟩,z7,b7,rs,R7,hl7,E7⟩
     have hsome:(cB r key).isSome=true:=by
      rw [<- fG,Jq]
      exact ⟨_,Qe hj,by simp⟩
     obtain ⟨gv,rfl,hg0,hg1⟩:=hrn.key hsome
     obtain ⟨vv,hvv⟩:∃ v,cB r (.inl gv)=some v:=by
      cases q:cB r (.inl gv) with
      | none=>rw [q] at hsome; cases hsome
      | some v=>exact ⟨v,rfl⟩
     have ev:=hval gv vv hvv
     subst ev
     dsimp only [kV]
     have hcast:((gv.toNat:Nat):Int)=gv:=by omega
     refine ⟨_,rfl,_,rfl,d,.int (hl i gv),rfl,.inl ⟨r,.inl gv,.inr ⟨o,z7⟩,rfl,hvv.symm⟩,_,_,rfl,rfl,_,rfl,?_⟩
     have grow:∀ (g:Nat) (w:Nat) (t:Int),((w < i/\EdP tk hl g w t)∨(w=i/\0 < hl i g/\t∈l/\∃ (j':Nat) (kv:Key×V),j' < j+1/\r[j']?=some kv/\kv.1=.inl (g:Int))) ↔
       (((w < i/\EdP tk hl g w t)∨(w=i/\0 < hl i g/\t∈l/\∃ (j':Nat) (kv:Key×V),j' < j/\r[j']?=some kv/\kv.1=.inl (g:Int)))∨(w=i/\(g:Int)=gv/\0 < hl i gv/\t∈l)):=fun g w t=>by
      constructor
      ·rintro (z | ⟨z1,z2,z3,j',kv,z4,z5,z6⟩)
       ·exact .inl (.inl z)
       ·by_cases c:j' < j
        ·exact .inl (.inr ⟨z1,z2,z3,j',kv,c,z5,z6⟩)
        ·have ej:j'=j:=by omega
         rw [ej,hj] at z5
         have ek:(Sum.inl gv,val)=kv:=Option.some.inj z5
         have eg:gv=(g:Int):=by rw [<- ek] at z6; simpa using z6
         exact .inr ⟨z1,eg.symm,by rw [eg]; exact z2,z3⟩
      ·rintro ((z | ⟨z1,z2,z3,j',kv,z4,z5,z6⟩) | ⟨z1,z2,z3,z4⟩)
       ·exact .inl z
       ·exact .inr ⟨z1,z2,z3,j',kv,by omega,z5,z6⟩
       ·exact .inr ⟨z1,by rw [z2]; exact z3,z4,j,_,by omega,hj,by rw [z2]⟩
     refine gD (fun c=>?_) (fun c=>?_)
     ·have hpos:0 < hl i gv:=of_decide_eq_true c
      have L7:=L.but b7 nd'
      have hlq7:=L7.row i tq l htq hli
      refine ⟨_,rfl,_,rfl,tp,_,_,_,rfl,rfl,SqL.of L7.lst,bX (by rw [Qh,htq]; rfl),tq,rfl,⟨_,SqL.of hlq7⟩,iB (K:=K) (a:=tq) (xs:=l.map V.int) (fun m σ H8=>(∃ v7,σ = [some (.ref tp),some (.ref hp),some (.int ((n+1:Nat):Int)),some (.ref rp),some (.int (i:Nat)),some (.ref d),some (.int gv),v7])/\H8 d=some (.frz o (.dK r))/\But d H H8/\∃ rs,Rows H8 rp qs rs/\rs.length=n+1/\∀ (g:Nat) r',rs[g]?=some r'->pI r' n/\qL (fun w t=>((w < i/\EdP tk hl g w t)∨(w=i/\0 < hl i g/\t∈l/\∃ (j':Nat) (kv:Key×V),j' < j/\r[j']?=some kv/\kv.1=.inl (g:Int)))∨(w=i/\(g:Int)=gv/\t∈l.take m)) r')
       ⟨⟨_,rfl⟩,z7,b7,rs,R7,hl7,fun g r' hr'=>⟨(E7 g r' hr').1,(E7 g r' hr').2.congr fun w t=>⟨.inl,fun z=>z.elim id fun z=>by rw [Yu] at z; exact (Qq z.2.2).elim⟩⟩⟩ (fun _ σ H8 _ ⟨_,_,b8,_⟩=>SqL.of ((L.but b8 nd').row i tq l htq hli)) ?_ ?_⟩
      ·rintro m tv σ H8 htv ⟨⟨v7,rfl⟩,z8,b8,rs,R8,hl8,E8⟩
       obtain ⟨t,ht,rfl⟩:=iH htv
       obtain ⟨t0,t1⟩:=htk i t (by rw [etk]; exact Qe ht)
       have hgl:gv.toNat < qs.length:=by rw [hq]; omega
       have hqg:qs[gv.toNat]?=some qs[gv.toNat]:=Qc hgl
       generalize qs[gv.toNat]=qg at hqg
       have hrg:rs[gv.toNat]?=some rs[gv.toNat]:=Qc (by rw [hl8]; omega)
       generalize rs[gv.toNat]=rg at hrg
       have hat:atI (qs.map V.ref) gv=some (.ref qg):=by
        have:=bX (xs:=qs.map V.ref) (j:=gv.toNat) (v:=.ref qg) (by rw [Qh,hqg]; rfl)
        rwa [hcast] at this
       have hrow8:=R8.row _ _ _ hqg hrg
       obtain ⟨hN8,hE8⟩:=E8 _ _ hrg
       have hlen8:=hN8.len
       have hqH:=(hqs qg (Qe hqg)).1
       have nqg:=nqd qg (Qe hqg)
       refine ⟨_,rfl,_,rfl,_,rfl,rp,_,gv,_,rfl,rfl,SqL.of R8.lst,hat,_,rfl,qg,_,rfl,sS.k (k:=.inl t) hrow8 (by rw [sizeLine_eq]; omega),?_⟩
       refine ⟨⟨_,rfl⟩,by rw [aK (Ne.symm nqg)]; exact z8,fun b u nb hb=>by rw [aK (fun z=>by rw [z,hqH] at hb; cases hb)]; exact b8 b u nb hb,rs.set gv.toNat (eP rg (.inl t) (.int (i:Nat))),R8.put hqg hrg,by rw [Xs]; exact hl8,fun g2 r2 hr2=>?_⟩
       rw [Xy] at hr2
       by_cases eg:gv.toNat=g2
       ·rw [if_pos eg,if_pos (by rw [hl8]; omega)] at hr2
        cases hr2
        have eg':((g2:Nat):Int)=gv:=by omega
        refine ⟨hN8.put _ t0 t1,(hE8.put i t).congr fun w t'=>?_⟩
        rw [hcast,eg',bH ht]
        constructor
        ·rintro ((z | ⟨z1,z2,z3⟩) | ⟨z1,z2⟩)
         ·exact .inl z
         ·exact .inr ⟨z1,rfl,Ju _ z3⟩
         ·exact .inr ⟨z1,rfl,by rw [z2]; simp⟩
        ·rintro (z | ⟨z1,z2,z3⟩)
         ·exact .inl (.inl z)
         ·rcases Jg.mp z3 with z3 | z3
          ·exact .inl (.inr ⟨z1,rfl,z3⟩)
          ·exact .inr ⟨z1,Qi.mp z3⟩
       ·rw [if_neg eg] at hr2
        refine ⟨(E8 _ _ hr2).1,(E8 _ _ hr2).2.congr fun w t'=>?_⟩
        have ng:¬ ((g2:Nat):Int)=gv:=by omega
        exact ⟨fun z=>z.elim .inl fun z=>absurd z.2.1 ng,fun z=>z.elim .inl fun z=>absurd z.2.1 ng⟩
      ·rintro σ H8 ⟨⟨v7,rfl⟩,z8,b8,rs,R8,hl8,E8⟩
       refine ⟨⟨_,_,rfl⟩,z8,b8,rs,R8,hl8,fun g r' hr'=>⟨(E8 g r' hr').1,(E8 g r' hr').2.congr fun w t=>?_⟩⟩
       rw [Qb,Jh,grow]
       exact ⟨fun z=>z.elim .inl fun ⟨a,b,c⟩=>.inr ⟨a,b,hpos,c⟩,fun z=>z.elim .inl fun ⟨a,b,_,c⟩=>.inr ⟨a,b,c⟩⟩
     ·have hpos:¬ 0 < hl i gv:=fun z=>c (decide_eq_true z)
      refine ⟨⟨_,_,rfl⟩,z7,b7,rs,R7,hl7,fun g r' hr'=>⟨(E7 g r' hr').1,(E7 g r' hr').2.congr fun w t=>?_⟩⟩
      rw [grow]
      exact ⟨.inl,fun z=>z.elim id fun z=>absurd z.2.2.1 hpos⟩
    ·rintro σ H7 ⟨⟨v6,v7,rfl⟩,z7,b7,rs,R7,hl7,E7⟩
     refine ⟨d,o,r,z7,nf,?_⟩
     have s8:aD H (upd H7 d (.dK r)):=fun b u hb=>by
      by_cases hbq:b=d
      ·rw [hbq] at hb ⊢
       rw [aB,<- hrow]; exact hb
      ·rw [aK hbq]; exact b7 b u hbq hb
     refine ⟨⟨_,_,_,_,rfl⟩,s8,rs,⟨by rw [aK nrd]; exact R7.lst,R7.len,R7.nd,fun g q r' a b=>by rw [aK (nqd q (Qe a))]; exact R7.row g q r' a b⟩,hl7,fun g r' hr'=>⟨(E7 g r' hr').1,(E7 g r' hr').2.congr fun w t=>?_⟩⟩
     constructor
     ·rintro (⟨z1,z2⟩ | ⟨z1,z2,z3,_⟩)
      ·exact ⟨by omega,z2⟩
      ·rw [z1]; exact ⟨by omega,hlt,z2,by rw [etk]; exact z3⟩
     ·rintro ⟨z1,z2,z3,z4⟩
      by_cases hw:w < i
      ·exact .inl ⟨hw,z2,z3,z4⟩
      ·have ew:w=i:=by omega
       subst ew
       have hs:(cB r (.inl (g:Int))).isSome=true:=by
        cases q:cB r (.inl (g:Int)) with
        | none=>rw [hnon _ q] at z3; omega
        | some v=>rfl
       rw [<- fG,Jq] at hs
       obtain ⟨kv,hk1,hk2⟩:=hs
       obtain ⟨j',hj'⟩:=Xa.mp hk1
       exact .inr ⟨rfl,z3,by rw [etk] at z4; exact z4,j',kv,(Qd.mp hj').1,hj',of_decide_eq_true hk2⟩
   ·rintro σ H4 ⟨⟨v4,v5,v6,v7,rfl⟩,s4,rs,R4,hl4,E4⟩
    refine ⟨_,rfl,k rp H4 qs rs s4 R4 hl4 fun g r hr=>⟨(E4 g r hr).2.congr fun w t=>⟨fun z=>z.2,fun z=>⟨?_,z⟩⟩,?_⟩⟩
    ·rw [Qb,D.len,hdl]; exact z.1
    ·have:=(E4 g r hr).1.len; omega
theorem HeldR.put {f:Int->Int} (h:HeldR r f n) {t:Int} (x:Int) (h0:0<=t) (h1:t<=n):HeldR (eP r (.inl t) (.int x)) (fun h=>if h=t then x else f h) n:=by
 have ne:∀ {h:Int},¬ h=t->¬ (Sum.inl h:Key)=Sum.inl t:=fun c z=>c (by simpa using z)
 refine ⟨h.rn.put _ h0 (by omega),fun h' v hv=>?_,fun h' hv=>?_,?_⟩
 ·rw [jQ] at hv
  by_cases c:h'=t
  ·rw [if_pos (by rw [c])] at hv
   rw [if_pos c]
   exact (Option.some.inj hv).symm
  ·rw [if_neg (ne c)] at hv
   rw [if_neg c]
   exact h.val h' v hv
 ·rw [jQ] at hv
  by_cases c:h'=t
  ·rw [if_pos (by rw [c])] at hv; cases hv
  ·rw [if_neg (ne c)] at hv
   rw [if_neg c]
   exact h.non h' hv
 ·rw [jQ]
  by_cases c:(n:Int)=t
  ·rw [if_pos (by rw [c])]; rfl
  ·rw [if_neg (ne c)]; exact h.nob
theorem HeldR.congr {f g:Int->Int} (h:HeldR r f n) (e:∀ x,f x=g x):HeldR r g n:=⟨h.rn,fun x v q=>by rw [h.val x v q,e],fun x q=>by rw [<- e]; exact h.non x q,h.nob⟩
theorem HeldR.get {f:Int->Int} (h:HeldR r f n) (x:Int):(cB r (.inl x)).getD (.int 0)=.int (f x):=by
 cases q:cB r (.inl x) with
 | none=>rw [h.non x q]; rfl
 | some v=>rw [h.val x v q]; rfl
theorem HeldR.pos {f:Int->Int} (h:HeldR r f n) {x:Int} (hx:f x≠0):cB r (.inl x)=some (.int (f x)):=by
 cases q:cB r (.inl x) with
 | none=>exact absurd (h.non x q) hx
 | some v=>rw [h.val x v q]
theorem HeldR.nobV {f:Int->Int} (h:HeldR r f n):cB r (.inl (n:Int))=some (.int (f n)):=by
 cases q:cB r (.inl (n:Int)) with
 | none=>have:=h.nob; rw [q] at this; cases this
 | some v=>rw [h.val n v q]
def fnL (l:List Int):Nat->Int:=fun w=>l.getD w 0
def fnI (l:List Int):Int->Int:=fun h=>l.getD h.toNat 0
theorem xH {i:Nat} {x:Int} (h:l[i]?=some x):fnL l i=x:=by unfold fnL; rw [Jd,h]; rfl
theorem aDv (h:∀ x∈l,0<=x) (i:Nat):0<=fnL l i:=by
 cases q:l[i]? with
 | none=>unfold fnL; rw [Jd,q]; exact Xb _
 | some x=>rw [xH q]; exact h x (Qe q)
structure SpIn (n:Nat) (tk:List (List Int)) (am rm:List Int) (H H':Hp) (mp hp:Addr) (ds:List Addr) (rl:List Int) (hds:List (List (Key×V))) (hl:Nat->Int->Int) (room:Int->Int):Prop where
 same:aD H H'
 lst:H' mp=some (.lst (rl.map V.int))
 len:rl.length=n+1
 rmv:∀ i:Nat,i < n->rl[i]?=some (room i)
 rn:rl[n]?=some 0
 rows:Rows H' hp ds hds
 hlen:hds.length=tk.length
 held:xF hds hl n
 spr:Spr n tk (fnL am) (fnI rm) hl room
def tZ (K:PySem.W.Frag):Sp:=fun vs H Q _=>∃ (tp ap mp:Addr) (tps:List Addr) (tk:List (List Int)) (am rm:List Int) (n:Nat),vs = [.ref tp,.ref ap,.ref mp]/\LLs H tp tps tk/\SqL K H ap (am.map V.int)/\H mp=some (.lst (rm.map V.int))/\am.length=tk.length/\rm.length=n/\n < 100/\tk.length<=100/\(∀ x∈am,0<=x)/\(∀ x∈rm,0<=x)/\(∀ w,∀ h∈nO tk w,0<=h/\h < n)/\aDi n tk (fnL am) (fnI rm) /\
 ∀ hp ds hds hl H',aD H H'->Rows H' hp ds hds->hds.length=tk.length->xF hds hl n->Sprd n tk (fnL am) (fnI rm) hl->Q (.ref hp) H'
theorem gK:FnScope ["takers", "amounts", "rooms", "nobody", "held", "found", "last", "some", "units", "work", "giver", "taker"] ["takers", "amounts", "rooms"] (aI jX):=⟨rfl,rfl,rfl,by decide +kernel,rfl,by decide +kernel,by decide +kernel⟩
theorem aCd {fR:Addr} {dR:FuncData} (G:Fn K mg "spread" jX ["takers", "amounts", "rooms"] f fd) (B:Bl mg) (GR:Fn K mg "reached" oU ["rows", "first"] fR dR) (OR:FnOk P w K mg base CX0 1 fR dR ["rows", "first"] (qM K)) (GWy:Fn K mg "way_to" wP ["found", "last"] fW dW) (OWy:FnOk P w K mg base CX0 1 fW dW ["found", "last"] (xE K)) (GHp:Fn K mg "handing_parts" tG ["takers", "held", "many"] fH dH) (OHp:FnOk P w K mg base CX0 1 fH dH ["takers", "held", "many"] (xG K)):FnOk P w K mg base CX0 2 f fd ["takers", "amounts", "rooms"] (tZ K):=by
 refine G.fn.ok gK (fun vs H Q E h=>?_) (fun cdv A outer s H vs Q E hr h=>?_)
 ·obtain ⟨tp,ap,mp,tps,tk,am,rm,n,rfl,_⟩:=h
  rfl
 ·obtain ⟨tp,ap,mp0,tps,tk,am,rm,n,rfl,L,hap,hmp0,hal,hrl,hn,htl,ham,hrm,htk,hall,k⟩:=h
  have r1:Room 1 _:=hr
  refine ⟨_,(aE (aS (i:=3) gK.nd rfl (Or.inr rfl) (aQ aV rfl B.len fJ (aA (pv 2) aC)))
  (aE (aS (i:=2) gK.nd rfl (Or.inr rfl) (aU hG (pv 2) (cI (aA aG aC))))
  (aE (aS (i:=4) gK.nd rfl (Or.inr rfl) (cF (own:=["amount"]) (fr:=[3]) (frn:=["nobody"]) (aW (aI jX) ["takers", "amounts", "rooms", "nobody", "held", "found", "last", "some", "units", "work", "giver", "taker"] rfl rfl (by decide +kernel)) rfl (cN (pv 1))
    (fun _ _ _ _=>(aM (i:=0) (show (["amount", "nobody"]:List Str).Nodup by decide +kernel) rfl (Or.inl rfl))) (fun _ _ _ _=>cJ)
    (fun _ _ _ _=>(yR (pv 1) (pv 0)))))
  (aE (kI PassesOwn.never (cL (aQ (oS rfl) rfl B.any aBe (aA (cF (own:=["row"]) (fr:=[3]) (frn:=["nobody"]) (aW (aI jX) ["takers", "amounts", "rooms", "nobody", "held", "found", "last", "some", "units", "work", "giver", "taker"] rfl rfl (by decide +kernel)) rfl (cN (pv 4))
    (fun _ _ _ _=>(aM (i:=0) (show (["row", "nobody"]:List Str).Nodup by decide +kernel) rfl (Or.inl rfl))) (fun _ _ _ _=>cJ)
    (fun _ _ _ _=>(gB mD (lJ (lW hr) (pv 0) (pv 1) (fun _ _=>rfl)) aG (bK _)))) aC)))
   (aE (aS (i:=5) gK.nd rfl (Or.inl rfl) (bD GR OR r1 rfl (aA (bD GHp OHp r1 rfl (aA (pv 0) (aA (pv 4) (aA (aQ aV rfl B.len fJ (aA (pv 2) aC)) aC)))) (aA (pv 3) aC))))
  (aE (aS (i:=6) gK.nd rfl (Or.inl rfl) (aT eD (aCX (own:=["hand"]) (fr:=[2]) (frn:=["rooms"]) (aW (aI jX) ["takers", "amounts", "rooms", "nobody", "held", "found", "last", "some", "units", "work", "giver", "taker"] rfl rfl (by decide +kernel)) rfl (pv 5)
    (fun _ _ _ _=>(aM (i:=0) (show (["hand", "rooms"]:List Str).Nodup by decide +kernel) rfl (Or.inl rfl))) (fun _ _ _ _=>lG (bF mD (aT (mK (K:=K) rfl) (pv 1) (pv 0) (fun _ _=>rfl)) aG (bK _)))
    (fun _ _ _ _=>(pv 0))) aG (fun _ _=>rfl)))
  (aE (aS (i:=7) gK.nd rfl (Or.inl rfl) (bD GWy OWy r1 rfl (aA (pv 5) (aA (pv 6) aC))))
  (aE (aS (i:=8) gK.nd rfl (Or.inl rfl) (aQ (aBL rfl) rfl B.min aFe (aA (aU hG (cI (aA (aT eD (pv 2) (pv 6) (fun _ _=>rfl)) aC)) (cF (own:=["work", "giver", "taker"]) (fr:=[4]) (frn:=["held"]) (aW (aI jX) ["takers", "amounts", "rooms", "nobody", "held", "found", "last", "some", "units", "work", "giver", "taker"] rfl rfl (by decide +kernel)) rfl (cN (pv 7))
    (fun _ _ _ _=>(jH (K:=K) (n:=3) rfl rfl (aX (aM (i:=0) (show (["work", "giver", "taker", "held"]:List Str).Nodup by decide +kernel) rfl (Or.inl rfl)) (aX (aM (i:=1) (show (["work", "giver", "taker", "held"]:List Str).Nodup by decide +kernel) rfl (Or.inl rfl)) (aX (aM (i:=2) (show (["work", "giver", "taker", "held"]:List Str).Nodup by decide +kernel) rfl (Or.inl rfl)) dQ))))) (fun _ _ _ _=>cJ)
    (fun _ _ _ _=>(lJ (lW hr) (aT (mK (K:=K) rfl) (pv 3) (pv 0) (fun _ _=>rfl)) (pv 1) (fun _ _=>rfl))))) aC)))
  (aE (aDZ (pv 2) (pv 6) aCY (pv 8) aFx kK)
  (aJ (cU PassesOwn.never rfl (cN (pv 7)) (kE rfl (aX (aM (i:=9) gK.nd rfl (Or.inl rfl)) (aX (aM (i:=10) gK.nd rfl (Or.inl rfl)) (aX (aM (i:=11) gK.nd rfl (Or.inl rfl)) dQ))))
   (aE (aEi (lW hr) (aT eD (pv 4) (pv 9) (fun _ _=>rfl)) (pv 10) (pv 8) aFE (by intros; rfl))
  (aJ (wG (lW hr) (aT eD (pv 4) (pv 9) (fun _ _=>rfl)) (pv 11) (aU eJ (kL PySem.F.plainAttrs_dict PySem.F.slot_dict_get PySem.F.type_dict_get aAZ (aT eD (pv 4) (pv 9) (fun _ _=>rfl)) (aA (pv 11) (aA aG aC))) (pv 8)) rfl)))))))))))
  (aJ (aR (pv 4))))))),?_⟩
  refine ⟨_,rfl,mp0,_,rfl,.inl (SqL.of hmp0),?_⟩
  have hmlen:(((rm.map V.int).length:Nat):Int)=(n:Int):=by rw [Qb,hrl]
  rw [hmlen]
  dsimp only [cH]
  refine ⟨_,rfl,sz1 _,fun pz hpz=>⟨mp0,pz,_,_,rfl,rfl,(aD.new hpz) _ _ hmp0,aB,cA (by rw [Qb,hrl]; show n+1<=1000; omega),fun mp hmp=>?_⟩⟩
  have s1:=(aD.new (o:=.lst [.int 0]) hpz).trans (aD.new (o:=.lst (rm.map V.int++[.int 0])) hmp)
  have nmp:H mp=none:=(aD.new (o:=.lst [.int 0]) hpz).free hmp
  have em:upd (upd H pz (.lst [.int 0])) mp (.lst (rm.map V.int++[.int 0])) mp=some (.lst ((rm++[0]).map V.int)):=by rw [aB,Qr]; rfl
  generalize upd (upd H pz (.lst [.int 0])) mp (.lst (rm.map V.int++[.int 0]))=H1 at s1 em ⊢
  dsimp only [cH]
  -- held
  refine ⟨_,rfl,ap,rfl,⟨_,s1.seqL hap⟩,gN (K:=K) (a:=ap) (xs:=am.map V.int) (fun σ=>∃ v,σ = [v,some (.int n)]) (fun i zs H2=>∃ qs:List Addr,zs=qs.map V.ref/\qs.length=i/\aD H1 H2/\qs.Nodup/\∀ (j:Nat) q a,qs[j]?=some q->am[j]?=some a->H1 q=none/\H2 q=some (.dK [(.inl (n:Int),.int a)])) (cA (by rw [Qb]; omega)) ⟨none,rfl⟩ ⟨[],rfl,rfl,aD.refl _,Wn,fun j q a h=>by simp at h⟩ ?_ (fun i zs H2 ⟨_,_,_,s2,_⟩=>(s1.trans s2).seqL hap) ?_ ?_⟩
  ·rintro i zs H2 ⟨qs,rfl,hq,_⟩
   rw [Qb]; omega
  ·rintro i zs σ y H2 hy ⟨v,rfl⟩ ⟨qs,rfl,hq,s2,nd,hqs⟩ hz
   obtain ⟨a,ha,rfl⟩:=iH hy
   refine eL ?_
   intro p hp
   refine ⟨_,rfl,_,rfl,.inl (n:Int),rfl,aB,?_⟩
   rw [aAF]
   refine ⟨hz,⟨_,rfl⟩,qs++[p],by rw [Qr]; rfl,by rw [Qt,hq]; rfl,s2.trans (aD.new hp),?_,fun j q a' hj ha'=>?_⟩
   ·rw [Yh]
    refine ⟨nd,by simp,fun x hx y hy e=>?_⟩
    rw [Qi.mp hy] at e
    obtain ⟨j,hj⟩:=Xa.mp hx
    have hjl:=(Qd.mp hj).1
    have hil:=(Qd.mp ha).1
    have:=(hqs j x _ hj (Qc (show j < am.length by omega))).2
    rw [e,hp] at this; cases this
   ·by_cases c:j < qs.length
    ·rw [Ji c] at hj
     obtain ⟨h1,h2⟩:=hqs j q a' hj ha'
     exact ⟨h1,(aD.new hp) _ _ h2⟩
    ·rw [Jm (by omega)] at hj
     have hj2:j - qs.length=0:=by
      have:=(Qd.mp hj).1
      simp at this; omega
     rw [hj2] at hj
     have e1:p=q:=by simpa using hj
     have ej:j=i:=by omega
     rw [ej,ha] at ha'
     have e2:a=a':=Option.some.inj ha'
     rw [<- e1,<- e2]
     exact ⟨s2.free hp,aB⟩
  ·rintro zs H2 ⟨ds,rfl,hdl,s2,dnd,hds0⟩ hp hhp
   rw [Qb] at hdl
   have s3:=s2.trans (aD.new (o:=.lst (ds.map V.ref)) hhp)
   have nhp1:H1 hp=none:=s2.free hhp
   have nhp:H hp=none:=s1.free nhp1
   have nds:∀ d∈ds,H1 d=none:=fun d hd=>by
    obtain ⟨j,hj⟩:=Xa.mp hd
    have hjl:=(Qd.mp hj).1
    exact (hds0 j d _ hj (Qc (show j < am.length by omega))).1
   have n1:mp≠hp:=fun z=>by rw [<- z,em] at nhp1; cases nhp1
   have n2:∀ d∈ds,d≠mp:=fun d hd z=>by have:=nds d hd; rw [z,em] at this; cases this
   have I0:SpIn n tk am rm H (upd H2 hp (.lst (ds.map V.ref))) mp hp ds (rm++[0]) (am.map fun a=>[(.inl (n:Int),.int a)]) (fun w h=>if h=n then fnL am w else 0) (fun h=>fnI rm h):=by
    refine ⟨s1.trans s3,s3 _ _ em,by simp [hrl],fun i hi=>?_,?_,⟨aB,by rw [Qb]; exact hdl,dnd,fun g q r h1 h2=>?_⟩,by rw [Qb]; exact hal,fun w r hr=>?_,aG5 (aDv ham) (fun h=>aDv hrm _)⟩
    ·rw [Ji (by omega),Qc (show i < rm.length by omega)]
     congr 1
     show _=rm.getD ((i:Int)).toNat 0
     rw [Jd,show ((i:Int)).toNat=i by omega,Qc (show i < rm.length by omega)]
     rfl
    ·rw [Jm (by omega),hrl,Nat.sub_self]; rfl
    ·rw [Qh] at h2
     obtain ⟨a,ha,rfl⟩:=Je.mp h2
     exact (aD.new hhp) _ _ (hds0 g q a h1 ha).2
    ·rw [Qh] at hr
     obtain ⟨a,ha,rfl⟩:=Je.mp hr
     have ea:=xH ha
     have hv:∀ h:Int,cB [((Sum.inl (n:Int):Key),V.int a)] (.inl h)=if h=n then some (.int a) else none:=fun h=>by
      by_cases c:h=n
      ·rw [if_pos c]; exact eQ (by rw [c])
      ·have nz:¬ (Sum.inl (n:Int):Key)=Sum.inl h:=fun z=>by
        have:(n:Int)=h:=by simpa using z
        exact c this.symm
       rw [if_neg c,fE nz]; rfl
     refine ⟨⟨[(n:Int)],rfl,by simp,fun o ho=>by rw [Qi.mp ho]; omega⟩,fun h v q=>?_,fun h q=>?_,by rw [hv,if_pos rfl]; rfl⟩
     ·rw [hv] at q
      by_cases c:h=n
      ·rw [if_pos c] at q ⊢
       rw [ea]; exact (Option.some.inj q).symm
      ·rw [if_neg c] at q; cases q
     ·rw [hv] at q
      by_cases c:h=n
      ·rw [if_pos c] at q; cases q
      ·rw [if_neg c]
   generalize upd H2 hp (.lst (ds.map V.ref))=H3 at s3 I0 ⊢
   dsimp only [cH]
   have nds0:∀ d∈ds,H d=none:=fun d hd=>s1.free (nds d hd)
   -- the while
   refine ⟨fun m σ H4=>∃ rl hds hl room v5 v6 v7 v8 v9 v10 v11,m=(iF hl tk.length n).toNat/\σ = [some (.ref tp),some (.ref ap),some (.ref mp),some (.int n),some (.ref hp),v5,v6,v7,v8,v9,v10,v11]/\SpIn n tk am rm H H4 mp hp ds rl hds hl room,
    ⟨_,_,_,_,_,none,none,none,none,none,none,none,rfl,rfl,I0⟩,?_⟩
   rintro m σ H4 ⟨rl,hds,hl,room,v5,v6,v7,v8,v9,v10,v11,rfl,rfl,I4⟩
   have hdl2:ds.length=tk.length:=by rw [I4.rows.len,I4.hlen]
   refine ⟨_,rfl,hp,rfl,⟨_,SqL.of I4.rows.lst⟩,sP (K:=K) (a:=hp) (xs:=ds.map V.ref) (vs:=((List.range tk.length).map fun w=>decide (0 < hl w n)).map V.bl) (fun σ=>∃ v,σ = [v,some (.int n)]) (by rw [Qb]; omega) (by simp [hdl2]) (SqL.of I4.rows.lst) ⟨none,rfl⟩ ?_ ?_⟩
   ·rintro i x v σ H5 hx hv ⟨v0,rfl⟩ s5 Q' k'
    rw [Qh] at hx
    obtain ⟨d,hd,rfl⟩:=Je.mp hx
    have hil:i < tk.length:=by rw [<- hdl2]; exact (Qd.mp hd).1
    rw [Qh,Qh,Xc hil] at hv
    cases hv
    have hih:i < hds.length:=by rw [I4.hlen]; exact hil
    have hri:hds[i]?=some hds[i]:=Qc hih
    generalize hds[i]=r at hri
    have hrow:=s5 _ _ (I4.rows.row i d r hd hri)
    exact ⟨_,rfl,_,rfl,d,.int (hl i n),rfl,.inl ⟨r,.inl n,.inl hrow,rfl,((I4.held i r hri).nobV).symm⟩,_,_,rfl,rfl,k' _ _ ⟨_,rfl⟩ (aD.refl _)⟩
   ·intro H5 s5 pb hpb
    refine ⟨pb,_,rfl,SqL.of aB,_,rfl,?_⟩
    have I6:SpIn n tk am rm H (upd H5 pb (.lst (((List.range tk.length).map fun w=>decide (0 < hl w n)).map V.bl))) mp hp ds rl hds hl room:=by
     have s6:=s5.trans (aD.new (o:=.lst (((List.range tk.length).map fun w=>decide (0 < hl w n)).map V.bl)) hpb)
     exact ⟨I4.same.trans s6,s6 _ _ I4.lst,I4.len,I4.rmv,I4.rn,I4.rows.same s6,I4.hlen,I4.held,I4.spr⟩
    generalize upd H5 pb (.lst (((List.range tk.length).map fun w=>decide (0 < hl w n)).map V.bl))=H6 at I6 ⊢
    refine gD (fun c=>?_) (fun c=>?_)
    ·have hpos:0 < iF hl tk.length n:=by
      obtain ⟨b,hb,hb2⟩:=Jq.mp c
      obtain ⟨w,hw,rfl⟩:=Qz.mp hb
      have h1:hl w n<=iF hl tk.length n:=kS (f:=fun w=>hl w n) (fun v _=>I6.spr.nn v n) hw
      have h2:0 < hl w n:=of_decide_eq_true hb2
      omega
     refine ⟨fun σ' H'=>∃ m',m' < (iF hl tk.length n).toNat/\∃ rl hds hl room v5 v6 v7 v8 v9 v10 v11,m'=(iF hl tk.length n).toNat/\σ' = [some (.ref tp),some (.ref ap),some (.ref mp),some (.int n),some (.ref hp),v5,v6,v7,v8,v9,v10,v11]/\SpIn n tk am rm H H' mp hp ds rl hds hl room,fun σ' H' z=>z,?_⟩
     have L6:=L.same I6.same
     have hroom:∀ h:Int,0<=h->h < n->fnI rl h=room h:=fun h h0 h1=>by
      have:=I6.rmv h.toNat (by omega)
      rw [show ((h.toNat:Nat):Int)=h by omega] at this
      exact xH this
     have hroomn:fnI rl n=0:=by
      have:=xH I6.rn
      show rl.getD ((n:Int)).toNat 0=0
      rw [show ((n:Int)).toNat=n by omega]
      exact this
     have hatR:∀ h:Int,0<=h->h<=n->atI (rl.map V.int) h=some (.int (fnI rl h)):=fun h h0 h1=>by
      have hlt:h.toNat < rl.length:=by rw [I6.len]; omega
      have:=bX (xs:=rl.map V.int) (j:=h.toNat) (v:=.int (fnI rl h)) (by unfold fnI; rw [Qh,Jd,Qc hlt]; rfl)
      rwa [show ((h.toNat:Nat):Int)=h by omega] at this
     -- found
     refine ⟨_,rfl,_,rfl,_,rfl,mp,_,rfl,.inl (SqL.of I6.lst),tp,hp,tps,ds,tk,hds,hl,n,by rw [Qb,I6.len]; rfl,L6,I6.rows,I6.hlen,I6.held,hn,htk,fun rp H7 qs rs s7 R7 hrs E7=>?_⟩
     refine ⟨_,rfl,rp,(n:Int),qs,rs,(n:Int)+1,EdP tk hl,rfl,R7,by rw [hrs]; omega,E7,fun g w t e=>?_,by omega,by omega,by omega,fun fdp H8 fs os s8 hfd e8 T8 C8=>?_⟩
     ·have:=htk w t e.2.2; omega
     dsimp only [cH]
     have s68:=s7.trans s8
     have T8l:=T8.len
     have T8f:=T8.flen
     have nmf:mp≠fdp:=fun z=>by have:=s7 _ _ I6.lst; rw [z,hfd] at this; cases this
     refine ⟨_,rfl,fdp,fs,rfl,e8,fun o=>aBS (a:=fdp) (o:=o) (kvs:=fs) (fun σ=>∃ v,σ = [v,some (.ref mp)]) (fun i zs H9=>H9=upd H8 fdp (.frz o (.dK fs))/\zs=((os.take i).filter fun h=>decide (0 < fnI rl h)).map V.int) (cA (by omega)) ⟨_,rfl⟩ ⟨rfl,rfl⟩ (fun i zs H9 z=>?_) (fun i zs H9 z=>by rw [z.1]; exact aB) ?_ ?_⟩
     ·rw [z.2,Qb]
      exact Qu (Jf _ _) (by rw [Ja]; omega)
     ·rintro i zs' σ p H9 hp9 ⟨v,rfl⟩ ⟨rfl,rfl⟩ hsz
      obtain ⟨ov,hov,hpe⟩:∃ ov,os[i]?=some ov/\p.1=.inl ov:=by
       have e:=congrArg (fun l=>l[i]?) T8.keys
       simp only [Qh] at e
       rw [hp9] at e
       cases q:os[i]? with
       | none=>rw [q] at e; cases e
       | some ov=>rw [q] at e; exact ⟨ov,rfl,Option.some.inj e⟩
      have hor:=T8.rng ov (Qe hov)
      rw [hpe]
      refine ⟨_,rfl,_,rfl,mp,_,ov,_,rfl,rfl,SqL.of (by rw [aK nmf]; exact s68 _ _ I6.lst),hatR ov hor.1 (by omega),_,_,rfl,rfl,_,rfl,?_⟩
      rw [bH hov,Xm,Qr]
      cases hc:decide (0 < fnI rl ov) with
      | true =>
       refine hZ ⟨_,rfl,hsz,⟨_,rfl⟩,rfl,?_⟩
       rw [Qw,hc]; rfl
      | false =>
       refine gR ⟨⟨_,rfl⟩,rfl,?_⟩
       rw [Qw,hc]
       show _=_++[]
       rw [Xe]
     ·rintro zs' H9 ⟨rfl,rfl⟩ lp hlp
      rw [T8f,Jh]
      obtain ⟨h1,ho1,h10,h1n,h1r⟩:=aF3 I6.spr hall (os:=os) C8 (Qe T8.head) hpos
      generalize hfree:(os.filter fun h=>decide (0 < fnI rl h))=free
      have hmem:∀ h,h∈free↔h∈os/\0 < fnI rl h:=fun h=>by rw [<- hfree,Jc,decide_eq_true_iff]
      have nlf:fdp≠lp:=fun z=>by rw [<- z,aB] at hlp; cases hlp
      have hlp8:H8 lp=none:=by rw [aK (Ne.symm nlf)] at hlp; exact hlp
      have s9:aD H8 (upd (upd (upd H8 fdp (.frz o (.dK fs))) lp (.lst (free.map V.int))) fdp (.dK fs)):=fun b u hb=>by
       by_cases hbf:b=fdp
       ·rw [hbf] at hb ⊢
        rw [aB,<- e8]; exact hb
       ·rw [aK hbf,aK (fun z=>by rw [z,hlp8] at hb; cases hb),aK hbf]
        exact hb
      have el9:upd (upd (upd H8 fdp (.frz o (.dK fs))) lp (.lst (free.map V.int))) fdp (.dK fs) lp=some (.lst (free.map V.int)):=by rw [aK (Ne.symm nlf),aB]
      generalize upd (upd (upd H8 fdp (.frz o (.dK fs))) lp (.lst (free.map V.int))) fdp (.dK fs)=H9 at s9 el9 ⊢
      have e9:=s9 _ _ e8
      have T9:=T8.tp (Tp.of s9)
      cases hfr:free with
      | nil =>
       have:h1∈free:=(hmem h1).mpr ⟨ho1,by rw [hroom h1 h10 h1n]; exact h1r⟩
       rw [hfr] at this; cases this
      | cons last jF =>
       rw [hfr] at el9
       obtain ⟨hlo,hlr⟩:=(hmem last).mp (by rw [hfr]; exact Qn ..)
       have hlrg:=T8.rng last hlo
       have hln:last < n:=by
        have:last≠n:=fun z=>by rw [z,hroomn] at hlr; omega
        omega
       rw [hroom last hlrg.1 hln] at hlr
       obtain ⟨jl,hjl⟩:=Xa.mp hlo
       refine ⟨lp,_,0,.int last,rfl,rfl,SqL.of el9,bX (xs:=(last::jF).map V.int) (j:=0) rfl,?_⟩
       dsimp only [cH]
       refine ⟨_,rfl,_,rfl,fdp,last,fs,os,(n:Int),(n:Int)+1,EdP tk hl,jl,rfl,e9,T9,by omega,hjl,fun sp H10 ps ss s10 hsp e10 S10 P10 N10 _ _=>?_⟩
       dsimp only [cH]
       have s610:=s68.trans (s9.trans s10)
       have hssl:ss.length<=100:=by
        have h1:(vtx (n:Int) ss).length<=n+1:=kT (n+1) _ N10 fun x hx=>by
         rcases Qj.mp hx with rfl | hx
         ·omega
         ·obtain ⟨s,hs,rfl⟩:=Qz.mp hx
          obtain ⟨i,hi⟩:=Xa.mp hs
          have:=htk _ _ ((lR P10).1 i s hi).2.1.2.2
          omega
        unfold vtx at h1
        rw [Jn,Qb] at h1
        omega
       have hpl:=S10.len
       -- units
       refine ⟨_,rfl,_,rfl,mp,_,last,_,rfl,rfl,SqL.of (s610 _ _ I6.lst),hatR last hlrg.1 (by omega),sz1 _,fun pl hpl0=>?_⟩
       rw [hroom last hlrg.1 hln]
       have sA:=aD.new (o:=.lst [.int (room last)]) hpl0
       refine ⟨_,rfl,sp,rfl,⟨_,SqL.of (sA _ _ e10)⟩,sP (K:=K) (a:=sp) (xs:=ps.map V.ref) (vs:=(ss.map fun s=>hl s.1 s.2.1).map V.int) (fun σ=>∃ x y z,σ = [x,y,z,some (.ref hp)]) (by rw [Qb]; omega) (by simp [hpl]) (SqL.of (sA _ _ e10)) ⟨none,none,none,rfl⟩ ?_ ?_⟩
       ·rintro i x v σ H11 hx hv ⟨x1,x2,x3,rfl⟩ s11 Q' k'
        rw [Qh] at hx
        obtain ⟨q,hq,rfl⟩:=Je.mp hx
        have hsi:i < ss.length:=by rw [<- hpl]; exact (Qd.mp hq).1
        have hs:=Qc hsi
        generalize ss[i]=st at hs
        rw [Qh,Qh,hs] at hv
        cases hv
        have s611:=s610.trans (sA.trans s11)
        obtain ⟨_,⟨hw,hg,ht⟩,_⟩:=(lR P10).1 i st hs
        have hqt:=(sA.trans s11) _ _ (S10.at_ i q st hq hs)
        have hwd:st.1 < ds.length:=by rw [hdl2]; exact hw
        have hd:=Qc hwd
        generalize ds[st.1]=d at hd
        have hwh:st.1 < hds.length:=by rw [I6.hlen]; exact hw
        have hr:=Qc hwh
        generalize hds[st.1]=r at hr
        have hrow:=s611 _ _ (I6.rows.row _ d r hd hr)
        refine ⟨q,_,rfl,SqT.of hqt,rfl,_,_,rfl,_,_,rfl,_,_,rfl,rfl,?_⟩
        exact ⟨_,rfl,_,rfl,hp,_,_,_,rfl,rfl,SqL.of (s611 _ _ I6.rows.lst),bX (by rw [Qh,hd]; rfl),_,rfl,d,.int (hl st.1 st.2.1),rfl,.inl ⟨r,.inl st.2.1,.inl hrow,rfl,((I6.held _ r hr).pos (by omega)).symm⟩,k' _ _ ⟨_,_,_,rfl⟩ (aD.refl _)⟩
       ·intro H11 s11 pc hpc
        have sB:=s11.trans (aD.new (o:=.lst ((ss.map fun s=>hl s.1 s.2.1).map V.int)) hpc)
        refine ⟨pl,pc,_,_,rfl,rfl,sB _ _ aB,aB,cA (by simp; omega),fun pm hpm=>?_⟩
        have sC:=sA.trans (sB.trans (aD.new (o:=.lst ([.int (room last)]++(ss.map fun s=>hl s.1 s.2.1).map V.int)) hpm))
        have hpmE:upd (upd H11 pc (.lst ((ss.map fun s=>hl s.1 s.2.1).map V.int))) pm (.lst ([.int (room last)]++(ss.map fun s=>hl s.1 s.2.1).map V.int)) pm=some (.lst ((room last::ss.map fun s=>hl s.1 s.2.1).map V.int)):=aB
        generalize upd (upd H11 pc (.lst ((ss.map fun s=>hl s.1 s.2.1).map V.int))) pm (.lst ([.int (room last)]++(ss.map fun s=>hl s.1 s.2.1).map V.int))=H12 at sC hpmE ⊢
        refine ⟨pm,_,rfl,SqL.of hpmE,by simp,fun u hu1 hu2=>?_⟩
        dsimp only [cH]
        have u1:u<=room last:=hu2 _ (Qn ..)
        have u2:∀ s∈ss,u<=hl s.1 s.2.1:=fun s hs=>hu2 _ (Qs _ (Qz.mpr ⟨s,hs,rfl⟩))
        have u0:0 < u:=by
         rcases Qj.mp hu1 with rfl | hu1
         ·exact hlr
         ·obtain ⟨s,hs,rfl⟩:=Qz.mp hu1
          obtain ⟨i,hi⟩:=Xa.mp hs
          exact ((lR P10).1 i s hi).2.1.2.1
        have s612:=s610.trans sC
        have em12:=s612 _ _ I6.lst
        have hltl:last.toNat < rl.length:=by rw [I6.len]; omega
        have hgl:(rl.map V.int)[last.toNat]?=some (.int (room last)):=by
         rw [Qh,I6.rmv last.toNat (by omega),show ((last.toNat:Nat):Int)=last by omega]; rfl
        refine ⟨_,rfl,_,rfl,mp,_,last,_,rfl,rfl,SqL.of em12,hlrg.1,hgl,_,rfl,_,_,rfl,rfl,mp,_,last,last.toNat,rfl,rfl,em12,aGb hlrg.1 (by rw [Qb,I6.len]; omega),?_⟩
        have eset:(rl.map V.int).set last.toNat (.int (room last - u))=(rl.set last.toNat (room last - u)).map V.int:=List.map_set.symm
        rw [eset]
        have nmp6:H mp=none:=nmp
        have s13:aD H (upd H12 mp (.lst ((rl.set last.toNat (room last - u)).map V.int))):=(I6.same.trans s612).wr nmp
        have em13:upd H12 mp (.lst ((rl.set last.toNat (room last - u)).map V.int)) mp=_:=aB
        have b13:But mp H12 (upd H12 mp (.lst ((rl.set last.toNat (room last - u)).map V.int))):=But.at
        have R12:=I6.rows.same s612
        have R13:Rows (upd H12 mp (.lst ((rl.set last.toNat (room last - u)).map V.int))) hp ds hds:=⟨(aK (Ne.symm n1)).trans R12.lst,R12.len,R12.nd,fun g q r a b=>(aK (n2 q (Qe a))).trans (R12.row g q r a b)⟩
        have nsm:sp≠mp:=fun z=>by have:=(s68.trans s9) _ _ I6.lst; rw [<- z,hsp] at this; cases this
        have es13:upd H12 mp (.lst ((rl.set last.toNat (room last - u)).map V.int)) sp=some (.lst (ps.map V.ref)):=(aK nsm).trans (sC _ _ e10)
        have S13:StepsAt (upd H12 mp (.lst ((rl.set last.toNat (room last - u)).map V.int))) ps ss:=(S10.tp (Tp.of sC)).tp (Tp.upd fun xs z=>by rw [em12] at z; cases z)
        generalize upd H12 mp (.lst ((rl.set last.toNat (room last - u)).map V.int))=H13 at s13 em13 R13 es13 S13 ⊢
        -- the steps
        refine ⟨_,rfl,sp,rfl,⟨_,SqL.of es13⟩,iB (K:=K) (a:=sp) (xs:=ps.map V.ref) (fun i σ H14=>∃ v9 v10 v11 hds' hl',σ = [some (.ref tp),some (.ref ap),some (.ref mp),some (.int n),some (.ref hp),some (.ref fdp),some (.int last),some (.ref sp),some (.int u),v9,v10,v11]/\aD H H14/\H14 mp=some (.lst ((rl.set last.toNat (room last - u)).map V.int))/\Rows H14 hp ds hds'/\hds'.length=tk.length/\xF hds' hl' n/\Gone n tk (fnL am) hl ss u i hl'/\H14 sp=some (.lst (ps.map V.ref))/\StepsAt H14 ps ss) ⟨_,_,_,hds,hl,rfl,s13,em13,R13,I6.hlen,I6.held,aF6 I6.spr,es13,S13⟩ (fun i σ H14 _ ⟨_,_,_,_,_,_,_,_,_,_,_,_,h,_⟩=>SqL.of h) ?_ ?_⟩
        ·rintro i x σ H14 hx ⟨v9,v10,v11,hds',hl',rfl,s14,em14,R14,hl14,HO14,G14,es14,S14⟩
         rw [Qh] at hx
         obtain ⟨q,hq,rfl⟩:=Je.mp hx
         have hsi:i < ss.length:=by rw [<- hpl]; exact (Qd.mp hq).1
         have hs:=Qc hsi
         generalize ss[i]=st at hs
         obtain ⟨wk,g,tt⟩:=st
         obtain ⟨_,⟨hw,hg,ht⟩,_⟩:=(lR P10).1 i _ hs
         obtain ⟨G15,ug,gt⟩:=aB2 G14 P10 N10 hs (Zp u0) u2 htk
         have hqt:=S14.at_ i q _ hq hs
         have hwd:wk < ds.length:=by rw [hdl2]; exact hw
         have hd:=Qc hwd
         generalize ds[wk]=d at hd
         have hwh:wk < hds'.length:=by rw [hl14]; exact hw
         have hr:=Qc hwh
         generalize hds'[wk]=r at hr
         have hrow:=R14.row _ d r hd hr
         have HR:=HO14 _ r hr
         have hdm:=Qe hd
         have ndm:=n2 d hdm
         have ndH:=nds0 d hdm
         have nds':sp≠d:=fun z=>by rw [z,hrow] at es14; cases es14
         obtain ⟨tt0,tt1⟩:=htk wk tt ht
         have gpos:0 < hl' wk g:=by omega
         have gr:0<=g/\g<=n:=by
          rcases G14.sup wk g hw gpos with z | z
          ·omega
          ·have:=htk wk g z; omega
         have hrl:=HR.rn.len
         refine ⟨q,_,rfl,SqT.of hqt,rfl,_,_,rfl,_,_,rfl,_,_,rfl,rfl,?_⟩
         have hat:atI (ds.map V.ref) (wk:Int)=some (.ref d):=bX (by rw [Qh,hd]; rfl)
         refine ⟨_,rfl,_,rfl,hp,_,_,_,rfl,rfl,SqL.of R14.lst,hat,_,rfl,d,.int (hl' wk g),rfl,.inl ⟨r,.inl g,.inl hrow,rfl,(HR.pos (by omega)).symm⟩,_,rfl,_,_,rfl,rfl,_,sS.k (k:=.inl g) hrow (by rw [sizeLine_eq]; omega),?_⟩
         have HR2:=HR.put (t:=g) (hl' wk g - u) gr.1 gr.2
         have R15:=R14.put (r':=eP r (.inl g) (.int (hl' wk g - u))) hd hr
         have s15:=s14.wr (u:=.dK (eP r (.inl g) (.int (hl' wk g - u)))) ndH
         have em15:upd H14 d (.dK (eP r (.inl g) (.int (hl' wk g - u)))) mp=_:=(aK (Ne.symm ndm)).trans em14
         have es15:upd H14 d (.dK (eP r (.inl g) (.int (hl' wk g - u)))) sp=_:=(aK nds').trans es14
         have S15:=S14.tp (Tp.upd (a:=d) (u:=.dK (eP r (.inl g) (.int (hl' wk g - u)))) fun xs z=>by rw [hrow] at z; cases z)
         have hrow15:upd H14 d (.dK (eP r (.inl g) (.int (hl' wk g - u)))) d=some (.dK (eP r (.inl g) (.int (hl' wk g - u)))):=aB
         have hrl2:=HR2.rn.len
         generalize hr2:eP r (.inl g) (.int (hl' wk g - u))=r2 at HR2 R15 s15 em15 es15 S15 hrow15 hrl2 ⊢
         generalize upd H14 d (.dK r2)=H15 at R15 s15 em15 es15 S15 hrow15 ⊢
         have hr2:(hds'.set wk r2)[wk]?=some r2:=by rw [Xy,if_pos rfl,if_pos hwh]
         refine ⟨_,rfl,_,rfl,hp,_,_,_,rfl,rfl,SqL.of R15.lst,hat,.inr (.inr (.inl ⟨rfl,.inl ⟨_,hrow15⟩⟩)),_,rfl,d,r2,.inl tt,.int 0,rfl,rfl,.inl hrow15,?_⟩
         rw [HR2.get tt]
         refine ⟨_,rfl,_,_,rfl,rfl,_,rfl,_,rfl,hp,_,_,_,rfl,rfl,SqL.of R15.lst,hat,_,rfl,d,_,rfl,sS.k (k:=.inl tt) hrow15 (by rw [sizeLine_eq]; omega),?_⟩
         have HR3:=HR2.put (t:=tt) ((if tt=g then hl' wk g - u else hl' wk tt)+u) tt0 (by omega)
         have R16:=R15.put (r':=eP r2 (.inl tt) (.int ((if tt=g then hl' wk g - u else hl' wk tt)+u))) hd hr2
         refine ⟨_,_,_,(hds'.set wk r2).set wk (eP r2 (.inl tt) (.int ((if tt=g then hl' wk g - u else hl' wk tt)+u))),mvP hl' wk g tt u,rfl,s15.wr ndH,(aK (Ne.symm ndm)).trans em15,R16,by rw [Xs,Xs]; exact hl14,fun v r' hr'=>?_,G15,(aK nds').trans es15,S15.tp (Tp.upd fun xs z=>by rw [hrow15] at z; cases z)⟩
         rw [Xy,Xy,Xs] at hr'
         by_cases cv:wk=v
         ·rw [if_pos cv,if_pos hwh] at hr'
          rw [<- Option.some.inj hr',<- cv]
          refine HR3.congr fun x=>?_
          unfold mvP
          rw [if_pos rfl,if_neg (Ne.symm gt)]
          by_cases c1:x=tt
          ·rw [if_pos c1,if_pos c1,if_neg (fun z=>gt (by rw [<- z,c1])),c1]; omega
          ·rw [if_neg c1,if_neg c1]
           by_cases c2:x=g
           ·rw [if_pos c2,if_pos c2,c2]; omega
           ·rw [if_neg c2,if_neg c2]; omega
         ·rw [if_neg cv,if_neg cv] at hr'
          refine (HO14 v r' hr').congr fun x=>?_
          unfold mvP
          rw [if_neg (Ne.symm cv)]
        ·rintro σ H14 ⟨v9,v10,v11,hds',hl',rfl,s14,em14,R14,hl14,HO14,G14,es14,S14⟩
         rw [Qb,hpl] at G14
         obtain ⟨S',hcol⟩:=aDj I6.spr G14 P10 hln u1
         refine ⟨_,?_,_,hds',hl',_,_,_,_,_,_,_,_,rfl,rfl,s14,em14,by rw [Xs]; exact I6.len,fun i hi=>?_,?_,R14,hl14,HO14,S'⟩
         ·rw [hcol]; omega
         ·rw [Xy]
          by_cases cl:last.toNat=i
          ·rw [if_pos cl,if_pos hltl,if_pos (by omega),show ((i:Nat):Int)=last by omega]
          ·rw [if_neg cl,if_neg (by omega)]
           exact I6.rmv i hi
         ·rw [Xy,if_neg (by omega)]
          exact I6.rn
    ·have hz:iF hl tk.length n<=0:=by
      have:∀ w∈List.range tk.length,hl w n=0:=fun w hw=>by
       have h0:=I6.spr.nn w n
       by_cases p:0 < hl w n
       ·exact absurd (Jq.mpr ⟨true,Qz.mpr ⟨w,hw,decide_eq_true p⟩,rfl⟩) c
       ·omega
      unfold iF
      rw [gI this]
      exact Xb _
     exact ⟨_,rfl,k hp ds hds hl H6 I6.same I6.rows I6.hlen I6.held (aEy I6.spr hz)⟩
def aEM:Scope:=match (gZ jY).getD 0 (.Pass ⟨0,0,0,0⟩) with
 | .Return (some (.ListComp _ _ sc _)) _=>sc
 | _=>{ kind:=.function,names:=[],isGenerator:=false,isCoroutine:=false }
theorem aCe (hK:X.K=K) (hc:X.calm=true):gQ X (.builtin "any") (fun xs H Q=>∃ (p:Addr) (bs:List Bool),xs = [.ref p]/\SqL K H p (bs.map V.bl)/\Q (.bl (bs.any id)) H):=by subst hK; exact oS hc
def lsF (ls:List (Int×Int)) (h:Int):Int×Int:=ls.getD h.toNat (0,1)
theorem aDw {ls:List (Int×Int)} {us:List V} (hd:aN K H (ls.map bA) us) {h:Int} (h0:0<=h) (h1:h < ls.length):∃ p,atI us h=some (.ref p)/\SqT K H p [.int (lsF ls h).1,.int (lsF ls h).2]/\lsF ls h∈ls:=by
 have hl:=aF hd
 rw [Qb] at hl
 have hlt:h.toNat < us.length:=by omega
 have hu:=Qc hlt
 generalize us[h.toNat]=u at hu
 obtain ⟨x,hx,hxd⟩:=aY hd hu
 obtain ⟨p,rfl,hp⟩:=bE.mp hxd
 have e:lsF ls h=x:=by unfold lsF; rw [Jd,hx]; rfl
 have:=bX hu
 rw [show ((h.toNat:Nat):Int)=h by omega] at this
 rw [e]
 exact ⟨p,this,hp,Qe hx⟩
theorem zT:∀ {bs:cW} {left:List Int} {rows:cW},gO left rows->gW left rows bs->∀ (i j:Nat) b c,i < j->bs[i]?=some b->bs[j]?=some c->∀ h∈b.1,h∉c.1
 | [],_,_,_,_,i,j,b,c,_,h,_=>by simp at h
 | d::bs,left,rows,ok,hb,i,j,b,c,hij,hi,hj=>by
  cases j with
  | zero=>omega
  | succ j =>
   cases i with
   | zero =>
    have e:d=b:=by simpa using hi
    subst e
    intro h hh hc
    have:=(rP ok.redu hb.2 c (Qe (by simpa using hj))).2.2.2 h hc
    have:=(Jc.mp this).2
    rw [iE.mpr hh] at this
    cases this
   | succ i=>exact zT ok.redu hb.2 i j b c (by omega) (by simpa using hi) (by simpa using hj)
def pJ (K:PySem.W.Frag):Sp:=fun vs H Q _=>∃ (ap lp:Addr) (l:List Int) (us:List V) (ls:List (Int×Int)),vs = [.ref ap,.ref lp]/\SqT K H ap (l.map V.int)/\SqT K H lp us/\aN K H (ls.map bA) us/\(∀ x∈ls,wY x)/\l.length<=1000/\(∀ h∈l,0<=h/\h < ls.length) /\
 ∀ p H',aD H H'->H p=none->H' p=some (.lst ((bR (lsF ls) l).map V.int))->Q (.ref p) H'
theorem aDx:FnScope ["able", "loads"] ["able", "loads"] (aI jY):=⟨rfl,rfl,rfl,by decide +kernel,rfl,by decide +kernel,by decide +kernel⟩
theorem aCf (G:Fn K mg "least_loaded" jY ["able", "loads"] f fd) (B:Bl mg) (GS:Fn K mg "is_less" aA0 ["one", "other"] fS dS) (OS:FnOk P w K mg base CX0 1 fS dS ["one", "other"] (aAq K)):FnOk P w K mg base CX0 2 f fd ["able", "loads"] (pJ K):=by
 refine G.fn.ok aDx (fun vs H Q E h=>?_) (fun cdv A outer s H vs Q E hr h=>?_)
 ·obtain ⟨ap,lp,l,us,ls,rfl,_⟩:=h
  rfl
 ·obtain ⟨ap,lp,l,us,ls,rfl,hap,hlp,hd,hok,h1000,hrg,k⟩:=h
  have r1:Room 1 _:=hr
  refine ⟨_,(aJ (aR (sN (z0 := "hand") (own:=["hand"]) (fr:=[0,1]) (frn:=["able", "loads"]) (lI (aI jY) ["able", "loads"] rfl rfl (fun _ _=>rfl) (fun _=>rfl) (by decide +kernel)) rfl (gC (pv 0))
    (fun _ _ _ _=>(aM (i:=0) (show (["hand", "able", "loads"]:List Str).Nodup by decide +kernel) rfl (Or.inr rfl))) (fun _ _ _ _=>lG (dJ (cL (aQ (aCe (K:=K) rfl rfl) rfl B.any aBe (aA (cF (own:=["other"]) (fr:=[0,2]) (frn:=["hand", "loads"]) (aW (aCO aEM (aI jY)) ["hand", "able", "loads"] rfl rfl (by decide +kernel)) rfl (xA (K:=K) rfl (pv 1))
    (fun _ _ _ _=>(aM (i:=0) (show (["other", "hand", "loads"]:List Str).Nodup by decide +kernel) rfl (Or.inl rfl))) (fun _ _ _ _=>cJ)
    (fun _ _ _ _=>(bD GS OS r1 rfl (aA (aT (bT (K:=K) rfl) (pv 2) (pv 0) (fun _ _=>rfl)) (aA (aT (bT (K:=K) rfl) (pv 2) (pv 1) (fun _ _=>rfl)) aC))))) aC)))))
    (fun _ _ _ _=>(pv 0))))),?_⟩
  refine ⟨_,rfl,ap,rfl,⟨_,hap⟩,mH (K:=K) (a:=ap) (xs:=l.map V.int) (fun σ=>∃ v,σ = [v,some (.ref ap),some (.ref lp)]) (fun i ys H1=>aD H H1/\ys=((l.take i).filter fun h=>!(l.any fun o=>jU (lsF ls o) (lsF ls h))).map V.int) (cA (by rw [Qb]; exact h1000)) ⟨none,rfl⟩ ⟨aD.refl _,rfl⟩ ?_ (fun i ys H1 ⟨s1,_⟩=>s1.seqT hap) ?_ ?_⟩
  ·rintro i ys H1 ⟨_,rfl⟩
   rw [Qb]
   exact Qu (Jf _ _) (by rw [Ja]; exact Jv _ _)
  ·rintro i ys σ y H1 hy ⟨v,rfl⟩ ⟨s1,rfl⟩ hz
   obtain ⟨h,hh,rfl⟩:=iH hy
   obtain ⟨h0,h1⟩:=hrg h (Qe hh)
   refine ⟨_,rfl,ap,rfl,⟨_,s1.seqT hap⟩,iV (K:=K) (a:=ap) (xs:=l.map V.int) (vs:=(l.map fun o=>jU (lsF ls o) (lsF ls h)).map V.bl) (fun σ=>∃ v,σ = [v,some (.int h),some (.ref lp)]) (by rw [Qb]; exact h1000) (by simp) (s1.seqT hap) ⟨none,rfl⟩ ?_ ?_⟩
   ·rintro j u v σ H2 hu hv ⟨v0,rfl⟩ s2 Q' k'
    obtain ⟨o,ho,rfl⟩:=iH hu
    rw [Qh,Qh,ho] at hv
    cases hv
    have s12:=s1.trans s2
    obtain ⟨o0,o1⟩:=hrg o (Qe ho)
    have hd2:=s12.denAll _ _ hd
    obtain ⟨po,a1,a2,a3⟩:=aDw hd2 o0 o1
    obtain ⟨ph,b1,b2,b3⟩:=aDw hd2 h0 h1
    exact ⟨_,rfl,_,rfl,lp,_,o,_,rfl,rfl,s12.seqT hlp,a1,_,rfl,_,rfl,lp,_,h,_,rfl,rfl,s12.seqT hlp,b1,po,ph,_,_,_,_,rfl,oE a2 (hok _ a3),oE b2 (hok _ b3),k' _ _ ⟨_,rfl⟩ (aD.refl _)⟩
   ·intro H2 s2 pb hpb
    refine ⟨pb,_,rfl,SqL.of aB,_,rfl,?_⟩
    have e:(l.map fun o=>jU (lsF ls o) (lsF ls h)).any id=l.any fun o=>jU (lsF ls o) (lsF ls h):=by rw [Yj]; rfl
    rw [e,bH hh,Xm,Qr]
    have s3:=s1.trans (s2.trans (aD.new (o:=.lst ((l.map fun o=>jU (lsF ls o) (lsF ls h)).map V.bl)) hpb))
    cases hc:l.any fun o=>jU (lsF ls o) (lsF ls h) with
    | false =>
     refine hZ ⟨_,rfl,hz,⟨_,rfl⟩,s3,?_⟩
     rw [Qw,hc]; rfl
    | true =>
     refine gR ⟨⟨_,rfl⟩,s3,?_⟩
     rw [Qw,hc]
     show _=_++[]
     rw [Xe]
  ·rintro ys H1 ⟨s1,rfl⟩ p hp
   rw [Qb,Jh]
   exact k p _ (s1.trans (aD.new hp)) (s1.free hp) aB
def ldL (n:Int) (bs:cW):List (Int×Int):=(bN n.toNat).map fun h=>jC (eZ bs h)
def xI (K:PySem.W.Frag):Sp:=fun vs H Q _=>∃ (x:V) (n:Int) (ws:List (List Int)) (wp:Addr) (wt:List Int),vs = [x,.ref wp]/\Den K H (eM n ws) x/\eK (eM n ws)=true/\SqT K H wp (wt.map V.int)/\tV ws wt /\
 ∀ p us bs H',aD H H'->SqT K H' p us->aN K H' ((ldL n bs).map bA) us->gW (bN n.toNat) (ws.zip wt) bs->Q (.ref p) H'
theorem aBg:FnScope ["book", "weights", "load_of"] ["book", "weights"] (aI qE):=⟨rfl,rfl,rfl,by decide +kernel,rfl,by decide +kernel,by decide +kernel⟩
theorem aDy (G:Fn K mg "part_loads" qE ["book", "weights"] f fd) (B:Bl mg) (GBl:Fn K mg "blocks" jG ["book", "weights"] fB dB) (OBl:FnOk P w K mg base CX0 7 fB dB ["book", "weights"] (tY K)):FnOk P w K mg base CX0 8 f fd ["book", "weights"] (xI K):=by
 refine G.fn.ok aBg (fun vs H Q E h=>?_) (fun cdv A outer s H vs Q E hr h=>?_)
 ·obtain ⟨x,n,ws,wp,wt,rfl,_⟩:=h
  rfl
 ·obtain ⟨x,n,ws,wp,wt,rfl,hx,hbk,hwp,hwt,k⟩:=h
  have r7:Room 7 _:=hr
  refine ⟨_,(aE (aS (i:=2) aBg.nd rfl (Or.inr rfl) (aBT (own:=["some", "load", "hand"]) (fr:=[]) (frn:=[]) (aW (aI qE) ["book", "weights", "load_of"] rfl rfl (by decide +kernel)) rfl (cN (bD GBl OBl r7 rfl (aA (pv 0) (aA (pv 1) aC))))
    (fun _ _ _ _=>(jH (K:=K) (n:=2) rfl rfl (aX (aM (i:=0) (show (["some", "load", "hand"]:List Str).Nodup by decide +kernel) rfl (Or.inl rfl)) (aX (aM (i:=1) (show (["some", "load", "hand"]:List Str).Nodup by decide +kernel) rfl (Or.inl rfl)) dQ)))) (fun _ _ _ _=>(xA (K:=K) rfl (pv 0))) (fun _ _ _ _=>(aM (i:=2) (show (["some", "load", "hand"]:List Str).Nodup by decide +kernel) rfl (Or.inl rfl)))
    (fun _ _ _ _=>(pv 2)) (fun _ _ _ _=>(pv 1))))
  (aJ (aR (cE fX rfl B.tuple dY (aA (cF (own:=["hand"]) (fr:=[2]) (frn:=["load_of"]) (aW (aI qE) ["book", "weights", "load_of"] rfl rfl (by decide +kernel)) rfl (cT rfl B.range (aA (aT bO (pv 0) aG (fun _ _=>rfl)) aC))
    (fun _ _ _ _=>(aM (i:=0) (show (["hand", "load_of"]:List Str).Nodup by decide +kernel) rfl (Or.inl rfl))) (fun _ _ _ _=>cJ)
    (fun _ _ _ _=>(lJ (lW hr) (pv 1) (pv 0) (fun _ _=>rfl)))) aC))))),?_⟩
  obtain ⟨a,b,ys,rfl,ha,hb,hys⟩:=fM hx
  obtain ⟨hn1,hn6,h12,_⟩:=cC hbk
  obtain ⟨RO,_,_⟩:=pH hbk hwt
  refine ⟨_,rfl,_,rfl,_,n,ws,wp,wt,rfl,hx,hbk,hwp,hwt,fun tp us bs H1 s1 ntp etp DB hbl hus=>?_⟩
  have hbm:=rP RO hbl
  rw [cS] at hbm
  refine ⟨tp,rfl,⟨_,SqL.of etp⟩,yV (K:=K) (a:=tp) (xs:=us) (fun i kvs σ H2=>H2=H1/\(∃ x y z,σ = [x,y,z])/\kvs.length<=6*i/\∀ (j:Nat) c h,j < i->bs[j]?=some c->h∈c.1->∃ v,cB kvs (.inl h)=some v/\Den K H1 (bA (jC (c.2,(c.1.length:Int)))) v) ⟨rfl,⟨_,_,_,rfl⟩,Qg _,fun j c h hj=>by omega⟩ (fun i ys σ H2 ⟨e,_⟩=>by rw [e]; exact SqL.of etp) ?_ ?_⟩
  ·rintro i x kvs σ H2 hx2 ⟨rfl,⟨x1,x2,x3,rfl⟩,hlen,hin⟩
   obtain ⟨c,hc,hcd⟩:=aY DB hx2
   obtain ⟨pp,pq,pr,rfl,hpp,hpq,hpr⟩:=aEI hcd
   have hi6:i < 6:=Ql (Qd.mp hx2).1 hus
   have hcl:=hbm c (Qe hc)
   refine ⟨pp,_,rfl,hpp,rfl,_,_,rfl,_,_,rfl,rfl,?_⟩
   refine ⟨_,rfl,pq,rfl,⟨_,hpq⟩,wN (K:=K) (b:=pq) (zs:=c.1.map V.int) (fun j kvs' σ H3=>H3=H2/\(∃ z,σ = [some (.ref pq),some (.ref pr),z])/\kvs'.length<=6*i+j/\(∀ (j':Nat) c' h,j' < i->bs[j']?=some c'->h∈c'.1->∃ v,cB kvs' (.inl h)=some v/\Den K H2 (bA (jC (c'.2,(c'.1.length:Int)))) v)/\∀ h∈c.1.take j,cB kvs' (.inl h)=some (.ref pr)) ⟨rfl,⟨_,rfl⟩,hlen,hin,fun h hh=>by rw [Yu] at hh; cases hh⟩ (fun j ys σ H3 ⟨e,_⟩=>by rw [e]; exact hpq) ?_ ?_⟩
   ·rintro j z kvs' σ H3 hz ⟨rfl,⟨z0,rfl⟩,hl',hin',hnew⟩
    obtain ⟨h,hh,rfl⟩:=iH hz
    have hjl:j < c.1.length:=(Qd.mp hh).1
    refine ⟨_,rfl,_,rfl,.inl h,rfl,by rw [sizeLine_eq]; omega,rfl,⟨_,rfl⟩,Qu (jW _ _ _) (by omega),fun j' c' h' hj' hc' hh'=>?_,fun h' hh'=>?_⟩
    ·have ne:¬ (Sum.inl h':Key)=Sum.inl h:=fun z=>by
      have e:h'=h:=by simpa using z
      exact zT RO hbl j' i c' c hj' hc' hc h' hh' (by rw [e]; exact Qe hh)
     rw [jQ,if_neg ne]
     exact hin' j' c' h' hj' hc' hh'
    ·rw [jQ]
     by_cases e:h'=h
     ·rw [if_pos (by rw [e])]
     ·rw [if_neg (fun z=>e (by simpa using z))]
      rw [bH hh] at hh'
      rcases Jg.mp hh' with hh' | hh'
      ·exact hnew h' hh'
      ·exact absurd (Qi.mp hh') e
   ·rintro kvs' σ H3 ⟨rfl,⟨z0,rfl⟩,hl',hin',hnew⟩
    rw [Qb] at hl' hnew
    rw [Jh] at hnew
    refine ⟨rfl,⟨_,_,_,rfl⟩,by omega,fun j' c' h' hj' hc' hh'=>?_⟩
    by_cases e:j' < i
    ·exact hin' j' c' h' e hc' hh'
    ·have ej:j'=i:=by omega
     rw [ej,hc] at hc'
     have ec:c=c':=Option.some.inj hc'
     rw [<- ec] at hh' ⊢
     exact ⟨_,hnew h' hh',bE.mpr ⟨pr,rfl,hpr⟩⟩
  ·rintro kvs σ H2 ⟨rfl,_,hlen,hin⟩ dp hdp
   have hul:=aF DB
   rw [Qb] at hul
   have s3:=aD.new (o:=.dK kvs) hdp
   have ed:upd H2 dp (.dK kvs) dp=some (.dK kvs):=aB
   have hfin:∀ h∈bN n.toNat,∃ v,cB kvs (.inl h)=some v/\Den K H2 (bA (jC (eZ bs h))) v:=fun h hh=>by
    obtain ⟨c,c1,c2,c3⟩:=pB hbl h hh
    obtain ⟨j,hj⟩:=Xa.mp c1
    rw [c3]
    exact hin j c h (by rw [hul]; exact (Qd.mp hj).1) hj c2
   generalize upd H2 dp (.dK kvs)=H3 at s3 ed ⊢
   dsimp only [cH]
   have s13:=s1.trans s3
   refine ⟨_,rfl,a,_,0,.int n,rfl,rfl,s13.seqT ha,rfl,n,rfl,by omega,by omega,eY (lo:=0) (n:=n.toNat) (fun σ=>∃ v,σ = [v,some (.ref dp)]) (fun i zs H4=>H4=H3/\aN K H3 ((((bN n.toNat).take i).map fun h=>jC (eZ bs h)).map bA) zs) (cA (by omega)) ⟨none,rfl⟩ ⟨rfl,aL.mpr rfl⟩ ?_ ?_ ?_⟩
   ·rintro i zs H4 ⟨_,d4⟩
    rw [aF d4,Qb,Qb,Ja]
    exact Jv _ _
   ·rintro i zs σ H4 hi ⟨v,rfl⟩ ⟨rfl,d4⟩ hz
    have hui:=mM hi
    obtain ⟨v',hv',hvd⟩:=hfin (i:Int) (Qe hui)
    refine eL ?_
    refine ⟨_,rfl,_,rfl,dp,v',rfl,.inl ⟨kvs,.inl (i:Int),.inl ed,by show V.int (0+(i:Int))=V.int (i:Int); rw [Xv],hv'.symm⟩,hz,⟨_,rfl⟩,rfl,?_⟩
    rw [bH hui,Qr,Qr]
    exact aZ d4 (aH.mpr ⟨_,_,rfl,s3.den _ _ hvd,aL.mpr rfl⟩)
   ·rintro zs H4 ⟨rfl,d4⟩ lp hlp
    rw [show (bN n.toNat).take n.toNat=bN n.toNat from Jt (by rw [cS]; exact Qg _)] at d4
    refine ⟨lp,zs,rfl,.inl ⟨SqL.of aB,fun tpp htp=>?_⟩⟩
    have s5:=(aD.new (o:=.lst zs) hlp).trans (aD.new (o:=.tup zs) htp)
    exact k tpp zs bs _ (s13.trans s5) (SqT.of aB) (s5.denAll _ _ d4) hbl
def aEN:Scope:=match (gZ gT).getD 4 (.Pass ⟨0,0,0,0⟩) with
 | .Assign _ (.ListComp _ _ sc _) _=>sc
 | _=>{ kind:=.function,names:=[],isGenerator:=false,isCoroutine:=false }
theorem uA (g:List Int->Int->Int):∀ (ws:List (List Int)) (wt:List Int),wt.length=ws.length->aO ((List.range ws.length).map fun w=>g (ws.getD w []) (wt.getD w 0))=aO ((ws.zip wt).map fun r=>g r.1 r.2)
 | [],_,_=>rfl
 | _::_,[],h=>by cases h
 | l::ws,x::wt,h=>by
  rw [Jn,List.range_succ_eq_map,Jk,Zb,List.zip_cons_cons,Jk]
  show g l x+aO ((List.range ws.length).map fun w=>g (ws.getD w []) (wt.getD w 0))=g l x+_
  rw [uA g ws wt (by simpa using h)]
  rfl
structure Parts (n:Nat) (ws:List (List Int)) (wt:List Int) (bs:cW) (hl:Nat->Int->Int):Prop where
 nn:∀ w h,0<=hl w h
 sup:∀ w h,w < ws.length->0 < hl w h->h∈bR (eZ bs) (ws.getD w [])
 rows:∀ w,w < ws.length->aO ((bN n).map (hl w))=wt.getD w 0*60
 cols:∀ h:Int,0<=h->h < n->aO ((List.range ws.length).map fun w=>hl w h)=iK bs h
theorem kW (f:α->β) (l:List α) (i:Nat) (a:α) (b:β) (h:i < l.length):(l.map f).getD i b=f (l.getD i a):=by
 rw [Jd,Jd,Qh,Qc h]; rfl
theorem uB (f:Int->Int) {h:Int} (h0:0<=h) (h1:h < n):fnI ((bN n).map f) h=f h:=by
 have:=mM (n:=n) (i:=h.toNat) (by omega)
 unfold fnI
 rw [Jd,Qh,this,show ((h.toNat:Nat):Int)=h by omega]; rfl
section
variable {n:Int} {bs:cW}
theorem aEO (hl:wt.length=ws.length) (hb:gW (bN n.toNat) (ws.zip wt) bs) (ok:gO (bN n.toNat) (ws.zip wt)) (h6:n<=6):aDi n.toNat (ws.map (bR (eZ bs))) (fnL (wt.map (· * 60))) (fnI ((bN n.toNat).map (iK bs))):=fun R=>by
 have h1:=aAn hb ok (by rw [cS]; omega) R
 rw [Qb]
 have e1:aO ((List.range ws.length).map fun w=>if (nO (ws.map (bR (eZ bs))) w).all R=true then fnL (wt.map (· * 60)) w else 0)=aO ((List.range ws.length).map fun w=>(fun l x=>if (bR (eZ bs) l).all R=true then 60*x else 0) (ws.getD w []) (wt.getD w 0)):=bQ fun w hw=>by
  have hw':=Js.mp hw
  unfold nO fnL
  rw [kW _ ws w [] [] hw',kW _ wt w 0 0 (by omega),Zf]
 have e2:aO ((bN n.toNat).map fun h=>if R h=true then fnI ((bN n.toNat).map (iK bs)) h else 0)=aO ((bN n.toNat).map fun h=>if R h=true then iK bs h else 0):=bQ fun h hh=>by
  obtain ⟨a,b⟩:=iD.mp hh
  rw [uB _ a b]
 rw [e1.trans (uA (fun l x=>if (bR (eZ bs) l).all R=true then 60*x else 0) ws wt hl),e2]
 have e3:aO ((ws.zip wt).map fun r=>if (bR (eZ bs) r.1).all R=true then 60*r.2 else 0)=60*aO ((ws.zip wt).map fun r=>if (bR (eZ bs) r.1).all R=true then r.2 else 0):=by
  rw [<- lP]
  exact bQ fun r _=>by split <;> omega
 rw [e3]
 exact h1
theorem aDz (hlen:wt.length=ws.length) (hb:gW (bN n.toNat) (ws.zip wt) bs) (ok:gO (bN n.toNat) (ws.zip wt)) (h6:n<=6) (S:Sprd n.toNat (ws.map (bR (eZ bs))) (fnL (wt.map (· * 60))) (fnI ((bN n.toNat).map (iK bs))) hl):Parts n.toNat ws wt bs hl:=by
 refine ⟨S.nn,fun w h hw hp=>?_,fun w hw=>?_,fun h h0 h1=>?_⟩
 ·have:=S.sup w h (by rw [Qb]; exact hw) hp
  unfold nO at this
  rwa [kW _ ws w [] [] hw] at this
 ·have:=S.rows w (by rw [Qb]; exact hw)
  unfold fnL at this
  rwa [kW _ wt w 0 0 (by omega)] at this
 ·have ht:aO ((List.range (ws.map (bR (eZ bs))).length).map (fnL (wt.map (· * 60))))=aO ((bN n.toNat).map (fnI ((bN n.toNat).map (iK bs)))):=by
   have e2:aO ((bN n.toNat).map (fnI ((bN n.toNat).map (iK bs))))=aO ((bN n.toNat).map (iK bs)):=bQ fun h hh=>by
    obtain ⟨a,b⟩:=iD.mp hh
    exact uB _ a b
   rw [e2,<- aBb hb ok (by rw [cS]; omega),Qb]
   have e1:aO ((List.range ws.length).map (fnL (wt.map (· * 60))))=aO ((List.range ws.length).map fun w=>(fun (_:List Int) (x:Int)=>60*x) (ws.getD w []) (wt.getD w 0)):=bQ fun w hw=>by
    have hw':=Js.mp hw
    unfold fnL
    rw [kW _ wt w 0 0 (by omega),Zf]
   rw [e1.trans (uA (fun (_:List Int) (x:Int)=>60*x) ws wt hlen),<- lP]
  have:=aB3 S ht h h0 h1
  unfold iF at this
  rw [Qb] at this
  rw [this,uB _ h0 h1]
theorem aBh (hb:gW (bN n.toNat) (ws.zip wt) bs) (ok:gO (bN n.toNat) (ws.zip wt)) (h6:n<=6) {h:Int} (hh:h∈bN n.toNat):0<=(eZ bs h).1/\0 < (eZ bs h).2/\(eZ bs h).2<=6/\∃ k:Nat,(eZ bs h).2=k:=by
 obtain ⟨b,b1,b2,b3⟩:=pB hb h hh
 obtain ⟨c1,c2,c3,_⟩:=rP ok hb b b1
 rw [cS] at c2
 have:=Xd.mpr c1
 rw [b3]
 exact ⟨c3,by show (0:Int) < b.1.length; omega,by show (b.1.length:Int)<=6; omega,b.1.length,rfl⟩
theorem aGc {x:Int×Int} (h:0 < x.2):(jC x).1*60 / (jC x).2=x.1*60 / x.2:=by
 have a:=aDk x.1 h
 have b:=aBc x.1 h
 have g:=nE (a:=x.1) h
 show mQ x.1 x.2*60 / nN x.1 x.2=x.1*60 / x.2
 conv=>rhs; rw [<- a]
 conv=>rhs; arg 2; rw [<- b]
 rw [Xh,Int.mul_ediv_mul_of_pos _ _ g]
theorem aCg {f:Int->Int×Int} {g:Int->Int×Int} (h:∀ x∈l,0 < (f x).2/\g x=jC (f x)):bR g l=bR f l:=by
 unfold bR
 refine List.filter_congr fun x hx=>?_
 congr 1
 rw [Xf,Jq,Jq]
 refine ⟨fun ⟨o,a,b⟩=>⟨o,a,?_⟩,fun ⟨o,a,b⟩=>⟨o,a,?_⟩⟩
 ·rwa [(h o a).2,(h x hx).2,zJ (h o a).1 (h x hx).1] at b
 ·rw [(h o a).2,(h x hx).2,zJ (h o a).1 (h x hx).1]; exact b
theorem aBi:(ldL n bs).length=n.toNat:=by unfold ldL; rw [Qb,cS]
theorem aGd {h:Int} (h0:0<=h) (h1:h < n):lsF (ldL n bs) h=jC (eZ bs h):=by
 have:=mM (n:=n.toNat) (i:=h.toNat) (by omega)
 unfold lsF ldL
 rw [Jd,Qh,this,show ((h.toNat:Nat):Int)=h by omega]; rfl
theorem aGe (hb:gW (bN n.toNat) (ws.zip wt) bs) (hbk:eK (eM n ws)=true) (hw:tV ws wt):∀ x∈ldL n bs,wY x/\0<=x.1/\x.1<=100000/\x.2<=6:=fun x hx=>by
 obtain ⟨h,hh,rfl⟩:=Qz.mp hx
 obtain ⟨_,h6,_,_⟩:=cC hbk
 obtain ⟨ok,rs,rl⟩:=pH hbk hw
 obtain ⟨a,b,c,_⟩:=aBh hb ok h6 hh
 have ha:(eZ bs h).1<=1188:=by
  obtain ⟨d,d1,d2,d3⟩:=pB hb h hh
  rw [d3]
  have key:∀ {bs:cW} {left:List Int} {rows:cW},RwS rows->gW left rows bs->∀ b∈bs,b.2<=rows.length*99:=by
   intro bs
   induction bs with
   | nil=>intro _ _ _ _ b hb; cases hb
   | cons e bs ih =>
    intro left rows rs hb b hm
    rcases Qj.mp hm with rfl | hm
    ·rw [hb.1.2.2.1]; exact (aDr rs _).2
    ·have h1:=ih rs.redu hb.2 b hm
     have h2:=zS rows e.1
     omega
  have:=key rs hb d d1
  show d.2<=1188
  omega
 have p1:=pC (eZ bs h).1 b
 have p2:=rT (a:=(eZ bs h).1) b
 have p3:=rR a b
 have p4:=rS a b
 refine ⟨⟨p1,Xt (show (jC (eZ bs h)).2<=6 by show nN _ _<=6; omega) (by decide),Jy (show (jC (eZ bs h)).1.natAbs<=1188 by show (mQ _ _).natAbs<=1188; omega) (by decide)⟩,p3,by show mQ _ _<=_; omega,by show nN _ _<=_; omega⟩
end
def shD (n:Int) (f:Int->Int):PyData:=.tuple (((bN n.toNat).map fun h=>jC (f h,60)).map bA)
def qN (K:PySem.W.Frag):Sp:=fun vs H Q _=>∃ (x:V) (n:Int) (ws:List (List Int)) (wp:Addr) (wt:List Int),vs = [x,.ref wp]/\Den K H (eM n ws) x/\eK (eM n ws)=true/\SqT K H wp (wt.map V.int)/\tV ws wt /\
 ∀ p lp us sp zs bs hl H',aD H H'->SqT K H' p [.ref lp,.ref sp]->SqT K H' lp us->aN K H' ((ldL n bs).map bA) us->H sp=none->H' sp=some (.lst zs)->aN K H' ((List.range ws.length).map fun w=>shD n (hl w)) zs->gW (bN n.toNat) (ws.zip wt) bs->Parts n.toNat ws wt bs hl->Q (.ref p) H'
theorem jM:FnScope ["book", "weights", "loads", "takers", "rooms", "held", "shares"] ["book", "weights"] (aI gT):=⟨rfl,rfl,rfl,by decide +kernel,rfl,by decide +kernel,by decide +kernel⟩
theorem aAu (G:Fn K mg "in_parts" gT ["book", "weights"] f fd) (B:Bl mg) (GPl:Fn K mg "part_loads" qE ["book", "weights"] fP dP) (OPl:FnOk P w K mg base CX0 8 fP dP ["book", "weights"] (xI K)) (GLl:Fn K mg "least_loaded" jY ["able", "loads"] fL dL) (OLl:FnOk P w K mg base CX0 2 fL dL ["able", "loads"] (pJ K)) (GSp:Fn K mg "spread" jX ["takers", "amounts", "rooms"] fS dS) (OSp:FnOk P w K mg base CX0 2 fS dS ["takers", "amounts", "rooms"] (tZ K)) (GL:Fn K mg "lowest" nC ["a", "b"] fW dW) (OL:FnOk P w K mg base CX0 2 fW dW ["a", "b"] iZ):FnOk P w K mg base CX0 9 f fd ["book", "weights"] (qN K):=by
 obtain ⟨tun,hun⟩:=B.un
 refine G.fn.ok jM (fun vs H Q E h=>?_) (fun cdv A outer s H vs Q E hr h=>?_)
 ·obtain ⟨x,n,ws,wp,wt,rfl,_⟩:=h
  rfl
 ·obtain ⟨x,n,ws,wp,wt,rfl,hx,hbk,hwp,hwt,k⟩:=h
  have r8:Room 8 _:=hr
  have r2:Room 2 _:=hr.mono (by decide)
  refine ⟨_,(aE (aS (i:=2) jM.nd rfl (Or.inr rfl) (bD GPl OPl r8 rfl (aA (pv 0) (aA (pv 1) aC))))
  (aE (eX (i:=3) (own:=["able"]) (fr:=[2]) (frn:=["loads"]) (aW (aI gT) ["book", "weights", "loads", "takers", "rooms", "held", "shares"] rfl rfl (by decide +kernel)) rfl jM.nd rfl rfl rfl (gC (aT bO (pv 0) aG (fun _ _=>rfl)))
    (fun _ _ _ _=>(aM (i:=0) (show (["able", "loads"]:List Str).Nodup by decide +kernel) rfl (Or.inl rfl))) (fun _ _ _ _=>cJ)
    (fun _ _ _ _=>(bD GLl OLl r2 rfl (aA (pv 0) (aA (pv 1) aC)))))
  (aE (eX (i:=4) (own:=["a", "b"]) (fr:=[]) (frn:=[]) (aW (aI gT) ["book", "weights", "loads", "takers", "rooms", "held", "shares"] rfl rfl (by decide +kernel)) rfl jM.nd rfl rfl rfl (gC (pv 2))
    (fun _ _ _ _=>(jH (K:=K) (n:=2) rfl rfl (aX (aM (i:=0) (show (["a", "b"]:List Str).Nodup by decide +kernel) rfl (Or.inl rfl)) (aX (aM (i:=1) (show (["a", "b"]:List Str).Nodup by decide +kernel) rfl (Or.inl rfl)) dQ)))) (fun _ _ _ _=>cJ)
    (fun _ _ _ _=>(aU mW (aU cY (pv 0) (mY (v:=.int 60) rfl hun ⟨tun,rfl⟩)) (pv 1))))
  (aE (aS (i:=5) jM.nd rfl (Or.inl rfl) (bD GSp OSp r2 rfl (aA (pv 3) (aA (cF (own:=["weight"]) (fr:=[]) (frn:=[]) (aW (aI gT) ["book", "weights", "loads", "takers", "rooms", "held", "shares"] rfl rfl (by decide +kernel)) rfl (gC (pv 1))
    (fun _ _ _ _=>(aM (i:=0) (show (["weight"]:List Str).Nodup by decide +kernel) rfl (Or.inl rfl))) (fun _ _ _ _=>cJ)
    (fun _ _ _ _=>(aU cY (pv 0) (mY (v:=.int 60) rfl hun ⟨tun,rfl⟩)))) (aA (pv 4) aC)))))
  (aE (yJ (i:=6) (z0 := "row") (own:=["row"]) (fr:=[0]) (frn:=["book"]) (lI (aI gT) ["book", "weights", "loads", "takers", "rooms", "held", "shares"] rfl rfl (fun _ _=>rfl) (fun _=>rfl) (by decide +kernel)) rfl jM.nd rfl rfl rfl (cN (pv 5))
    (fun _ _ _ _=>(aM (i:=0) (show (["row", "book"]:List Str).Nodup by decide +kernel) rfl (Or.inr rfl))) (fun _ _ _ _=>cJ)
    (fun _ _ _ _=>(cE (gF (K:=K) rfl) rfl B.tuple dY (aA (cF (own:=["hand"]) (fr:=[0]) (frn:=["row"]) (aW (aCO aEN (aI gT)) ["row", "book"] rfl rfl (by decide +kernel)) rfl (cT rfl B.range (aA (aT (bT (K:=K) rfl) (pv 1) aG (fun _ _=>rfl)) aC))
    (fun _ _ _ _=>(aM (i:=0) (show (["hand", "row"]:List Str).Nodup by decide +kernel) rfl (Or.inl rfl))) (fun _ _ _ _=>cJ)
    (fun _ _ _ _=>(bD GL OL r2 rfl (aA (aF0 (K:=K) rfl PySem.F.plainAttrs_dict PySem.F.slot_dict_get PySem.F.type_dict_get aAZ (pv 1) (aA (pv 0) (aA aG aC))) (aA (mY (v:=.int 60) rfl hun ⟨tun,rfl⟩) aC))))) aC))))
  (aJ (aR (bG (aA (pv 2) (aA (pv 6) aC)))))))))),?_⟩
  obtain ⟨a,b,ys,rfl,ha,hb,hys⟩:=fM hx
  have hly:=aF hys
  rw [Qb] at hly
  obtain ⟨hn1,hn6,h12,hws⟩:=cC hbk
  obtain ⟨RO,RS,RL⟩:=pH hbk hwt
  refine ⟨_,rfl,_,rfl,_,n,ws,wp,wt,rfl,hx,hbk,hwp,hwt,fun lp us bs H1 s1 hlp dlp hbl=>?_⟩
  dsimp only [cH]
  have hlo:=aGe hbl hbk hwt
  have hul:=aF dlp
  rw [Qb,aBi] at hul
  have hwr:∀ l∈ws,∀ h∈l,h∈bN n.toNat/\0<=h/\h < n:=fun l hl h hh=>by
   have:=(hJ (hws l hl)).2.1 h hh
   exact ⟨iD.mpr (by omega),this⟩
  -- takers
  refine ⟨_,rfl,a,_,1,.ref b,rfl,rfl,s1.seqT ha,rfl,b,rfl,⟨_,s1.seqT hb⟩,mH (K:=K) (a:=b) (xs:=ys) (fun σ=>∃ v,σ = [v,some (.ref lp)]) (fun i zs H2=>∃ qs:List Addr,zs=qs.map V.ref/\qs.length=i/\aD H1 H2/\∀ (j:Nat) q l,qs[j]?=some q->ws[j]?=some l->H2 q=some (.lst ((bR (eZ bs) l).map V.int))) (cA (by omega)) ⟨none,rfl⟩ ⟨[],rfl,rfl,aD.refl _,fun j q l h=>by simp at h⟩ ?_ (fun i zs H2 ⟨_,_,_,s2,_⟩=>(s1.trans s2).seqT hb) ?_ ?_⟩
  ·rintro i zs H2 ⟨qs,rfl,hq,_⟩
   rw [Qb]; omega
  ·rintro i zs σ y H2 hy ⟨v,rfl⟩ ⟨qs,rfl,hq,s2,hqs⟩ hz
   obtain ⟨l,hl,hld⟩:=aY hys hy
   obtain ⟨al,rfl,hal⟩:=bV.mp hld
   have hlm:=Qe hl
   obtain ⟨c1,c2,c3⟩:=hJ (hws l hlm)
   have hl6:=hU (by omega) c2 c3
   have s12:=s1.trans s2
   refine ⟨_,rfl,_,rfl,al,lp,l,us,ldL n bs,rfl,s12.seqT hal,s2.seqT hlp,s2.denAll _ _ dlp,fun x hx=>(hlo x hx).1,by omega,fun h hh=>by rw [aBi]; have:=c2 h hh; omega,fun p H3 s3 np ep=>?_⟩
   have el:bR (lsF (ldL n bs)) l=bR (eZ bs) l:=aCg fun h hh=>by
    obtain ⟨d1,d2,d3⟩:=hwr l hlm h hh
    exact ⟨(aBh hbl RO hn6 d1).2.1,aGd d2 d3⟩
   rw [el] at ep
   refine ⟨hz,⟨_,rfl⟩,qs++[p],by rw [Qr]; rfl,by rw [Qt,hq]; rfl,s2.trans s3,fun j q l' hj hl'=>?_⟩
   by_cases cj:j < qs.length
   ·rw [Ji cj] at hj
    exact s3 _ _ (hqs j q l' hj hl')
   ·rw [Jm (by omega)] at hj
    have hj2:j - qs.length=0:=by
     have:=(Qd.mp hj).1
     simp at this; omega
    rw [hj2] at hj
    have e1:p=q:=by simpa using hj
    rw [show j=i by omega,hl] at hl'
    rw [<- e1,<- Option.some.inj hl']
    exact ep
  ·rintro zs H2 ⟨qs,rfl,hq,s2,hqs⟩ tp htp
   have s3:=s2.trans (aD.new (o:=.lst (qs.map V.ref)) htp)
   have L3:LLs (upd H2 tp (.lst (qs.map V.ref))) tp qs (ws.map (bR (eZ bs))):=⟨aB,by rw [Qb]; omega,fun j q l hj hl=>by
    rw [Qh] at hl
    obtain ⟨l0,h0,rfl⟩:=Je.mp hl
    exact (aD.new htp) _ _ (hqs j q l0 hj h0)⟩
   generalize upd H2 tp (.lst (qs.map V.ref))=H3 at s3 L3 ⊢
   -- rooms
   refine ⟨_,rfl,lp,rfl,⟨_,s3.seqT hlp⟩,iV (K:=K) (a:=lp) (xs:=us) (vs:=((bN n.toNat).map (iK bs)).map V.int) (fun σ=>∃ v w,σ = [v,w]) (by omega) (by rw [Qb,Qb,cS,hul]) (s3.seqT hlp) ⟨none,none,rfl⟩ ?_ ?_⟩
   ·rintro i u v σ H4 hu hv ⟨v0,w0,rfl⟩ s4 Q' k'
    obtain ⟨x,hx2,hxd⟩:=aY ((s3.trans s4).denAll _ _ dlp) hu
    obtain ⟨px,rfl,hpx⟩:=bE.mp hxd
    have hil:i < n.toNat:=by rw [<- hul]; exact (Qd.mp hu).1
    have hui:=mM hil
    rw [Qh,Qh,hui] at hv
    cases hv
    unfold ldL at hx2
    rw [Qh,hui] at hx2
    have ex:jC (eZ bs (i:Int))=x:=Option.some.inj hx2
    obtain ⟨o1,o2,o3,o4⟩:=hlo x (by rw [<- ex]; exact Qz.mpr ⟨_,Qe hui,rfl⟩)
    have er:iK bs (i:Int)=x.1*60 / x.2:=by
     rw [<- ex]
     exact (aGc (aBh hbl RO hn6 (Qe hui)).2.1).symm
    refine ⟨px,_,rfl,hpx,rfl,_,_,rfl,_,_,rfl,rfl,?_⟩
    refine ⟨_,rfl,_,_,rfl,rfl,⟨jJ (by omega),jJ (by decide)⟩,_,rfl,_,_,rfl,rfl,⟨o1.1,jJ (by have:=o1.1; omega)⟩,?_⟩
    rw [er] at k'
    exact k' _ _ ⟨_,_,rfl⟩ (aD.refl _)
   ·intro H4 s4 mp hmp
    have s5:=s3.trans (s4.trans (aD.new (o:=.lst (((bN n.toNat).map (iK bs)).map V.int)) hmp))
    have em:upd H4 mp (.lst (((bN n.toNat).map (iK bs)).map V.int)) mp=some (.lst (((bN n.toNat).map (iK bs)).map V.int)):=aB
    have L5:=L3.same (s4.trans (aD.new (o:=.lst (((bN n.toNat).map (iK bs)).map V.int)) hmp))
    generalize upd H4 mp (.lst (((bN n.toNat).map (iK bs)).map V.int))=H5 at s5 em L5 ⊢
    have s15:=s1.trans s5
    -- amounts
    refine ⟨_,rfl,_,rfl,wp,rfl,⟨_,s15.seqT hwp⟩,iV (K:=K) (a:=wp) (xs:=wt.map V.int) (vs:=(wt.map (· * 60)).map V.int) (fun σ=>∃ v,σ = [v]) (by rw [Qb,hwt.1]; omega) (by simp) (s15.seqT hwp) ⟨none,rfl⟩ ?_ ?_⟩
    ·rintro i u v σ H6 hu hv ⟨v0,rfl⟩ s6 Q' k'
     obtain ⟨x,hx2,rfl⟩:=iH hu
     rw [Qh,Qh,hx2] at hv
     cases hv
     have:=hwt.2 x (Qe hx2)
     exact ⟨_,rfl,_,_,rfl,rfl,⟨jJ (by omega),jJ (by decide)⟩,k' _ _ ⟨_,rfl⟩ (aD.refl _)⟩
    ·intro H6 s6 ap hap
     have s7:=s6.trans (aD.new (o:=.lst ((wt.map (· * 60)).map V.int)) hap)
     have s57:=s5.trans s7
     refine ⟨_,rfl,tp,ap,mp,qs,ws.map (bR (eZ bs)),wt.map (· * 60),(bN n.toNat).map (iK bs),n.toNat,rfl,L5.same s7,SqL.of aB,s7 _ _ em,by rw [Qb,Qb]; exact hwt.1,by rw [Qb,cS],by omega,by rw [Qb]; omega,fun x hx2=>?_,fun x hx2=>?_,fun w h hh=>?_,aEO hwt.1 hbl RO hn6,fun hp ds hds hl H8 s8 R8 hdl HO S8=>?_⟩
     ·obtain ⟨y,hy,rfl⟩:=Qz.mp hx2
      have:=hwt.2 y hy
      omega
     ·obtain ⟨h,hh,rfl⟩:=Qz.mp hx2
      obtain ⟨d1,d2,_⟩:=aBh hbl RO hn6 hh
      exact Int.ediv_nonneg (by omega) (by omega)
     ·unfold nO at hh
      by_cases cw:w < ws.length
      ·rw [kW _ ws w [] [] cw] at hh
       have hm:ws.getD w []∈ws:=by
        rw [Jd,Qc cw]; exact Zj cw
       have:=(hwr _ hm h (lQ.mp hh).1).2
       omega
      ·rw [Jd,List.getElem?_eq_none (by rw [Qb]; omega)] at hh
       cases hh
     have PT:=aDz hwt.1 hbl RO hn6 S8
     rw [Qb] at hdl
     dsimp only [cH]
     have s78:=s7.trans s8
     have s18:=s15.trans s78
     have hdsl:ds.length=ws.length:=by rw [R8.len,hdl]
     -- shares
     refine ⟨_,rfl,hp,rfl,⟨_,SqL.of R8.lst⟩,gN (K:=K) (a:=hp) (xs:=ds.map V.ref) (fun σ=>∃ v,σ = [v,some (.ref a)]) (fun i zs H9=>aD H8 H9/\aN K H9 (((List.range ws.length).take i).map fun w=>shD n (hl w)) zs) (cA (by rw [Qb]; omega)) ⟨none,rfl⟩ ⟨aD.refl _,aL.mpr rfl⟩ ?_ (fun i zs H9 ⟨s9,_⟩=>s9.seqL (SqL.of R8.lst)) ?_ ?_⟩
     ·rintro i zs H9 ⟨_,d9⟩
      rw [aF d9,Qb,Ja]
      exact Jv _ _
     ·rintro i zs σ y H9 hy ⟨v,rfl⟩ ⟨s9,d9⟩ hz
      rw [Qh] at hy
      obtain ⟨d,hd,rfl⟩:=Je.mp hy
      have hil:i < ws.length:=by rw [<- hdsl]; exact (Qd.mp hd).1
      have hih:i < hds.length:=by rw [hdl]; exact hil
      have hri:=Qc hih
      generalize hds[i]=r at hri
      have hrow:=s9 _ _ (R8.row i d r hd hri)
      have HR:=HO i r hri
      have s19:=s18.trans s9
      refine ⟨_,rfl,a,_,0,.int n,rfl,rfl,s19.seqT ha,rfl,n,rfl,by omega,by omega,eY (lo:=0) (n:=n.toNat) (fun σ=>∃ v,σ = [v,some (.ref d)]) (fun j as H10=>aD H9 H10/\aN K H10 ((((bN n.toNat).take j).map fun h=>jC (hl i h,60)).map bA) as) (cA (by omega)) ⟨none,rfl⟩ ⟨aD.refl _,aL.mpr rfl⟩ ?_ ?_ ?_⟩
      ·rintro j as H10 ⟨_,d10⟩
       rw [aF d10,Qb,Qb,Ja]
       exact Jv _ _
      ·rintro j as σ H10 hj ⟨v,rfl⟩ ⟨s10,d10⟩ hz2
       have huj:=mM hj
       have hrow10:=s10 _ _ hrow
       refine eL ?_
       refine ⟨_,rfl,.inr (.inr (.inl ⟨rfl,.inl ⟨_,hrow10⟩⟩)),_,rfl,d,r,.inl (0+(j:Int)),.int 0,rfl,rfl,.inl hrow10,?_⟩
       rw [HR.get,Xv]
       refine ⟨_,_,rfl,by decide,?_,fun p hp2=>?_⟩
       ·exact Xt (show (60:Int)<=2^10 by decide) (by decide)
       ·refine ⟨hz2,⟨_,rfl⟩,s10.trans (aD.new hp2),?_⟩
        rw [bH huj,Qr,Qr]
        exact aZ ((aD.new hp2).denAll _ _ d10) (aH.mpr ⟨_,_,rfl,bE.mpr ⟨p,rfl,SqT.of aB⟩,aL.mpr rfl⟩)
      ·rintro as H10 ⟨s10,d10⟩ pl hpl
       rw [show (bN n.toNat).take n.toNat=bN n.toNat from Jt (by rw [cS]; exact Qg _)] at d10
       refine ⟨pl,as,rfl,.inl ⟨SqL.of aB,fun pt hpt=>?_⟩⟩
       have s11:=(aD.new (o:=.lst as) hpl).trans (aD.new (o:=.tup as) hpt)
       refine ⟨hz,⟨_,rfl⟩,s9.trans (s10.trans s11),?_⟩
       rw [bH (Xc hil),Qr]
       exact aZ ((s10.trans s11).denAll _ _ d9) (aH.mpr ⟨_,_,rfl,bB.mpr ⟨pt,as,rfl,SqT.of aB,s11.denAll _ _ d10⟩,aL.mpr rfl⟩)
     ·rintro zs H9 ⟨s9,d9⟩ sp hsp
      rw [Qb,hdsl,Jt (by rw [Xk]; exact Qg _)] at d9
      have sE:=s9.trans (aD.new (o:=.lst zs) hsp)
      have nsp:H sp=none:=(s18.trans s9).free hsp
      have hlpE:=(s5.trans (s78.trans sE)).seqT hlp
      have dlpE:=(s5.trans (s78.trans sE)).denAll _ _ dlp
      have yZ:=s18.trans sE
      have es:upd H9 sp (.lst zs) sp=some (.lst zs):=aB
      have dsE:=(aD.new (o:=.lst zs) hsp).denAll _ _ d9
      generalize upd H9 sp (.lst zs)=H10 at hlpE dlpE yZ es dsE ⊢
      exact ⟨_,rfl,_,rfl,cA (show 2<=1000 by decide),fun p hp2=>k p lp us sp zs bs hl _ (yZ.trans (aD.new hp2)) (SqT.of aB) ((aD.new hp2).seqT hlpE) ((aD.new hp2).denAll _ _ dlpE) nsp ((aD.new hp2) _ _ es) ((aD.new hp2).denAll _ _ dsE) hbl PT⟩
structure Wb (k:Nat) (d:PyData):Prop where
 nd:dZ d=true
 cl:d.canLay0=true
 dp:d.depth<=k
 eq:PyData.eqv d d=true
theorem Wb.sh {k:Nat} {d:PyData} (h:Wb k d) (hk:k<=64):SeqAt.shaped d=true:=qJ h.cl (Qu h.dp hk)
theorem jD {k:Nat} (i:Int):Wb k (.int i):=⟨by unfold dZ; rfl,oB i,Qu (qI i) (Jj _),by rw [PyData.eqv]; simp⟩
theorem nJ {k:Nat} (i:Bool):Wb k (.bool i):=⟨by unfold dZ; rfl,by unfold PyData.canLay0; rfl,by unfold PyData.depth; exact Jj _,by rw [PyData.eqv]; simp⟩
theorem aEP {k:Nat}:Wb k (.str "1"):=⟨by unfold dZ; rfl,by unfold PyData.canLay0; decide +kernel,by unfold PyData.depth; exact Jj _,by rw [PyData.eqv]; simp⟩
theorem aAv {k:Nat}:Wb k .none:=⟨by unfold dZ; rfl,by unfold PyData.canLay0; rfl,by unfold PyData.depth; exact Jj _,by rw [PyData.eqv]⟩
theorem aAw {k:Nat}:∀ {ds:List PyData},(∀ d∈ds,Wb k d)->iR ds=true/\PyData.canLayAll0 ds=true/\PyData.depthAll ds<=k/\PyData.eqvAll ds ds=true
 | [],_=>⟨by unfold iR; rfl,by unfold PyData.canLayAll0; rfl,by unfold PyData.depthAll; exact Jj _,by rw [PyData.eqvAll]⟩
 | d::ds,h=>by
  obtain ⟨a,b,c,e⟩:=aAw (ds:=ds) fun x hx=>h x (Qs _ hx)
  obtain ⟨a1,b1,c1,e1⟩:=h d (Qn ..)
  exact ⟨by unfold iR; rw [a1,a]; rfl,by unfold PyData.canLayAll0; rw [b1,b]; rfl,by unfold PyData.depthAll; exact Nat.max_le.mpr ⟨c1,c⟩,by rw [PyData.eqvAll,e1,e]; rfl⟩
theorem aAx {k:Nat} (h:∀ d∈ds,Wb k d):Wb (k+1) (.tuple ds):=by
 obtain ⟨a,b,c,e⟩:=aAw h
 exact ⟨by unfold dZ; exact a,by unfold PyData.canLay0; exact b,by unfold PyData.depth; exact Zx c,by rw [PyData.eqv]; exact e⟩
theorem xJ {k:Nat} (h:∀ d∈ds,Wb k d):Wb (k+1) (.list ds):=by
 obtain ⟨a,b,c,e⟩:=aAw h
 exact ⟨by unfold dZ; exact a,by unfold PyData.canLay0; exact b,by unfold PyData.depth; exact Zx c,by rw [PyData.eqv]; exact e⟩
theorem Wb.mono {k:Nat} {d:PyData} (h:Wb k d) (e:k<=m):Wb m d:=⟨h.nd,h.cl,Qu h.dp e,h.eq⟩
def frV:PyData->Bool
 | .tuple [.int a,.int b]=>decide (0<=a) && decide (1<=b)
 | _=>false
def frP:PyData->Int×Int
 | .tuple [.int a,.int b]=>(a,b)
 | _=>(0,1)
theorem aDA (x:Int×Int):frP (bA x)=x:=rfl
theorem zU (x:Int×Int):frV (bA x)=(decide (0<=x.1) && decide (1<=x.2)):=rfl
theorem pK {d:PyData} (h:frV d=true):d=bA (frP d)/\0<=(frP d).1/\1<=(frP d).2:=by
 unfold frV at h
 split at h
 ·rw [Jb,decide_eq_true_iff,decide_eq_true_iff] at h
  exact ⟨rfl,h⟩
 ·cases h
def BdF (x:Int×Int):Prop:=0<=x.1/\x.1<=2^135/\1<=x.2/\x.2<=4096
structure FrB (d:PyData):Prop where
 wb:Wb 1 d
 bd:frV d=true->BdF (frP d)
structure RowB (d:PyData):Prop where
 wb:Wb 2 d
 fr:∀ ds,d=.tuple ds->∀ e∈ds,FrB e
theorem pM (h:∀ e∈ds,FrB e):RowB (.tuple ds):=⟨aAx fun d hd=>(h d hd).wb,fun es e=>by cases e; exact h⟩
theorem aEQ (h:∀ e∈ds,FrB e):RowB (.list ds):=⟨xJ fun d hd=>(h d hd).wb,fun es e=>by cases e⟩
theorem aER:RowB .none:=⟨aAv,fun es e=>by cases e⟩
theorem aDB {k:Nat} {x y:Int×Int} (h0:0<=x.1) (h1:x.1<=k*(2^135*4096^k)) (h2:1<=x.2) (h3:x.2<=4096^k) (hy:BdF y) :
  0<=(jE x y).1/\(jE x y).1<=(k+1:Nat)*(2^135*4096^(k+1))/\1<=(jE x y).2/\(jE x y).2<=4096^(k+1):=by
 obtain ⟨y0,y1,y2,y3⟩:=hy
 have pb:0 < x.2*y.2:=Wp (by omega) (by omega)
 have pa:0<=x.1*y.2+y.1*x.2:=Int.add_nonneg (Yi h0 (by omega)) (Yi y0 (by omega))
 have q1:=rR pa pb
 have q2:=rS pa pb
 have q3:=pC (x.1*y.2+y.1*x.2) pb
 have q4:=rT (a:=x.1*y.2+y.1*x.2) pb
 have b1:x.2*y.2<=4096^k*4096:=Xw h3 y3 (by omega) (by omega)
 have a1:x.1*y.2<=(k*(2^135*4096^k))*4096:=Xw h1 y3 (by omega) (by omega)
 have a2:y.1*x.2<=2^135*4096^k:=Xw y1 h3 (by omega) (by decide)
 have e:(4096:Int)^(k+1)=4096^k*4096:=Int.pow_succ ..
 refine ⟨q1,?_,q3,?_⟩
 ·refine Yl q2 (Yl (Int.add_le_add a1 a2) ?_)
  rw [e]
  have p:(0:Int)<=2^135*4096^k:=Yi (by decide) (Int.pow_nonneg (by decide))
  generalize hP:(2:Int)^135*4096^k=P at p
  have e2:(2:Int)^135*(4096^k*4096)=P*4096:=by rw [<- hP,Xh]
  rw [e2]
  have e3:((k+1:Nat):Int)*(P*4096)=k*P*4096+P*4096:=by
   rw [Wh,Qaa,<- Xh]; simp
  rw [e3]
  omega
 ·rw [e]; exact Yl q4 b1
theorem aDC {ps:List (Int×Int)} (h:∀ x∈ps,BdF x):∀ i,i<=ps.length->0<=(eT (ps.take i)).1/\(eT (ps.take i)).1<=i*(2^135*4096^i)/\1<=(eT (ps.take i)).2/\(eT (ps.take i)).2<=4096^i
 | 0,_=>by
  show (0:Int)<=0/\(0:Int)<=((0:Nat):Int)*_/\(1:Int)<=1/\(1:Int)<=4096^0
  refine ⟨Xb _,?_,Xb _,by decide⟩
  rw [Int.natCast_zero,Int.zero_mul]; exact Xb _
 | i+1,hi=>by
  obtain ⟨a,b,c,d⟩:=aDC h i (by omega)
  rw [bH (Qc (show i < ps.length by omega)),nH]
  exact aDB a b c d (h _ (Zj _))
theorem BdF.ok {x:Int×Int} (h:BdF x):wY x:=by
 obtain ⟨a,b,c,d⟩:=h
 exact ⟨by omega,by omega,by omega⟩
theorem aG9:∀ j:Nat,j < 5->(((j:Nat):Int)*(2^135*4096^j) < 2^200/\(4096:Int)^j < 2^200):=by decide +kernel
theorem pN {ps:List (Int×Int)} (h:∀ x∈ps,BdF x) (hl:ps.length<=4):tP ps:=by
 refine ⟨fun x hx=>(h x hx).ok,fun i=>?_⟩
 have key:∀ j,j<=ps.length->wY (eT (ps.take j)):=fun j hj=>by
  obtain ⟨a,b,c,d⟩:=aDC h j hj
  have hj4:j<=4:=by omega
  have hb:=aG9 j (by omega)
  have e1:=Xt b hb.1
  have e2:=Xt d hb.2
  generalize eT (ps.take j)=s at a c e1 e2 ⊢
  clear b d hb h
  exact ⟨by omega,e2,by omega⟩
 by_cases c:i<=ps.length
 ·exact key i c
 ·rw [Jt (by omega)]
  have:=key ps.length (Qg _)
  rwa [Jh] at this
theorem aCh {ps:List (Int×Int)} (h:tP ps):wY (eT ps):=by
 have:=h.2 ps.length
 rwa [Jh] at this
def gL (l:List Int) (ps:List (Int×Int)) (i:Nat):Bool:=decide (0 < (ps.getD i (0,1)).1) && !inS l (i:Int)
def bad (l:List Int) (ps:List (Int×Int)):Bool:=(List.range ps.length).any (gL l ps)
def oG:PyData->List (Int×Int)
 | .tuple ds=>ds.map frP
 | _=>[]
def gX (n:Nat) (l:List Int) (x:Int):PyData->Bool
 | .tuple ds=>decide (ds.length=n) && (ds.all frV && (!bad l (ds.map frP) && decide (eT (ds.map frP)=(x,1))))
 | _=>false
def shB (n:Nat) (ws:List (List Int)) (wt:List Int) (ds:List PyData):Bool:=decide (ds.length=ws.length) && (List.range ws.length).all fun i=>gX n (ws.getD i []) (wt.getD i 0) (ds.getD i .none)
def aAy (ds:List PyData) (h:Nat):List (Int×Int):=ds.map fun d=>(oG d).getD h (0,1)
def pO (n:Nat) (ds:List PyData):List (Int×Int):=(List.range n).map fun h=>eT (aAy ds h)
def lvB (n:Nat) (ws:List (List Int)) (wt:List Int) (ds:List PyData):Bool:=shB n ws wt ds && (List.range ws.length).all fun i=>!bad (bR (lsF (pO n ds)) (ws.getD i [])) (oG (ds.getD i .none))
theorem aCi {x:Int} {d:PyData} (h:gX n l x d=true):∃ ps:List (Int×Int),d=.tuple (ps.map bA)/\oG d=ps/\ps.length=n/\(∀ y∈ps,0<=y.1/\1<=y.2)/\bad l ps=false:=by
 unfold gX at h
 split at h
 ·rename_i ds
  rw [Jb,Jb,Jb,decide_eq_true_iff,Zd] at h
  obtain ⟨h1,h2,h3,_⟩:=h
  refine ⟨ds.map frP,?_,rfl,by rw [Qb]; exact h1,fun y hy=>?_,h3⟩
  ·have:(ds.map frP).map bA=ds:=by
    rw [Zb]
    conv=>rhs; rw [<- Wr ds]
    exact Xz fun e he=>(pK (Qy.mp h2 e he)).1.symm
   rw [this]
  ·obtain ⟨e,he,rfl⟩:=Qz.mp hy
   exact (pK (Qy.mp h2 e he)).2
 ·cases h
theorem aGf {ps:List (Int×Int)} (h:RowB (.tuple (ps.map bA))) (h0:∀ y∈ps,0<=y.1/\1<=y.2):∀ y∈ps,BdF y:=fun y hy=>by
 obtain ⟨a,b⟩:=h0 y hy
 exact (h.fr _ rfl (bA y) (List.mem_map_of_mem hy)).bd (by rw [zU,decide_eq_true a,decide_eq_true b]; rfl)
def lvA (f:Int->Int×Int) (l:List Int) (ps:List (Int×Int)):Bool:=l.any fun h=>decide (0 < (ps.getD h.toNat (0,1)).1) && !(l.filter fun o=>!decide ((f h).1*(f o).2<=(f o).1*(f h).2)).isEmpty
theorem aGg {f:Int->Int×Int} {ps:List (Int×Int)} (hb:bad l ps=false) (hl:∀ h∈l,0<=h/\h < ps.length):lvA f l ps=bad (bR f l) ps:=by
 rw [Xf]
 unfold lvA bad
 rw [Jq,Jq]
 constructor
 ·rintro ⟨h,hh,e⟩
  rw [Jb,decide_eq_true_iff,Zd,Zv] at e
  obtain ⟨a,b⟩:=hl h hh
  refine ⟨h.toNat,Js.mpr (by omega),?_⟩
  unfold gL
  rw [decide_eq_true e.1,show ((h.toNat:Nat):Int)=h by omega]
  have:inS (bR f l) h=false:=by
   rw [Jx]
   intro z
   obtain ⟨_,z2⟩:=lQ.mp (iE.mp z)
   apply e.2
   rw [Ye]
   intro o ho
   have:=z2 o ho
   unfold jU at this
   have q:=of_decide_eq_false this
   rw [decide_eq_true (by omega)]
   decide
  rw [this]
  rfl
 ·rintro ⟨i,hi,e⟩
  unfold gL at e
  rw [Jb,decide_eq_true_iff,Zd] at e
  have hin:(i:Int)∈l:=by
   refine Classical.byContradiction fun z=>?_
   have:=List.any_eq_false.mp hb i hi
   apply this
   unfold gL
   rw [decide_eq_true e.1]
   have:inS l (i:Int)=false:=decide_eq_false z
   rw [this]
   rfl
  refine ⟨(i:Int),hin,?_⟩
  rw [Yf,decide_eq_true e.1,Jr,Zd,Zv]
  intro z
  have:inS (bR f l) (i:Int)=true:=iE.mpr (lQ.mpr ⟨hin,fun o ho=>by
   have q:=Ye.mp z o ho
   unfold jU
   refine decide_eq_false fun c=>q ?_
   rw [decide_eq_false (by omega)]
   rfl⟩)
  rw [this] at e
  cases e.2
theorem aDD:FnScope ["found"] ["found"] (aI rM):=⟨rfl,rfl,rfl,by decide +kernel,rfl,by decide +kernel,by decide +kernel⟩
theorem aCj (G:Fn K mg "_law_awhole" rM ["found"] f fd) (B:Bl mg):FnOk P w K mg base CX0 1 f fd ["found"] (jZ K):=by
 refine G.fn.ok aDD (fun vs H Q E h=>?_) (fun cdv A outer s H vs Q E hr h=>?_)
 ·obtain ⟨x,d,rfl,_⟩:=h
  rfl
 ·obtain ⟨x,d,rfl,hd,k⟩:=h
  refine ⟨_,(aJ (aR (lC (aQ oM rfl B.isinstance jR (aA (pv 0) (aA (eW (v:=.ty "int") rfl B.int aC2 rfl) aC))) (lZ (aCq (aQ iQ rfl B.isinstance jR (aA (pv 0) (aA (eW (v:=.ty "bool") rfl B.bool wO rfl) aC)))))))),?_⟩
  refine ⟨_,rfl,x,iA d,rfl,hd.kd,_,rfl,?_⟩
  refine gD (fun c=>?_) (fun c=>?_)
  ·refine ⟨_,rfl,x,iA d,rfl,hd.kd,_,rfl,?_⟩
   have e:(!decide (iA d=Kd.bl))=bU d:=by
    cases d <;> first | rfl | (exfalso; simp [iA] at c)
   rw [e]
   exact k
  ·have e:false=bU d:=by
    cases d <;> first | rfl | (exfalso; simp [iA] at c)
   rw [e]
   exact k
def vP (K:PySem.W.Frag):Sp:=fun vs H Q _=>∃ x d,vs = [x]/\Den K H d x/\∀ H',aD H H'->Q (.bl (frV d)) H'
theorem aDE {d:PyData} (h:iA d≠.tup):frV d=false:=by
 cases d <;> first | rfl | exact absurd rfl h
theorem rX (h:ds.length≠2):frV (.tuple ds)=false:=by
 rw [Jx]
 intro z
 have e:=(pK z).1
 unfold bA at e
 injection e with e
 exact h (by rw [e]; rfl)
theorem xK (a b:PyData):frV (.tuple [a,b])=true->bU a=true/\bU b=true:=fun h=>by
 unfold frV at h
 split at h
 ·rename_i e
  cases e
  exact ⟨rfl,rfl⟩
 ·cases h
theorem nK {d:PyData} (h:bU d=true):∃ i,d=.int i:=by
 cases d <;> first | exact ⟨_,rfl⟩ | (exfalso; cases h)
theorem xL {d:PyData} (h:iA d=.tup):∃ ds,d=.tuple ds:=by
 cases d <;> first | exact ⟨_,rfl⟩ | (exfalso; cases h)
theorem aES:FnScope ["thing"] ["thing"] (aI wQ):=⟨rfl,rfl,rfl,by decide +kernel,rfl,by decide +kernel,by decide +kernel⟩
theorem aDF (G:Fn K mg "_law_afraction" wQ ["thing"] f fd) (B:Bl mg) (GAh:Fn K mg "_law_awhole" rM ["found"] fA dA) (OAh:FnOk P w K mg base CX0 1 fA dA ["found"] (jZ K)):FnOk P w K mg base CX0 2 f fd ["thing"] (vP K):=by
 refine G.fn.ok aES (fun vs H Q E h=>?_) (fun cdv A outer s H vs Q E hr h=>?_)
 ·obtain ⟨x,d,rfl,_⟩:=h
  rfl
 ·obtain ⟨x,d,rfl,hd,k⟩:=h
  have r1:Room 1 _:=hr
  have kk:=k H (aD.refl _)
  refine ⟨_,(aE (cX (PW.pt (iS (dJ (cL (aQ cQ rfl B.isinstance jR (aA (pv 0) (aA (eW (v:=.ty "tuple") rfl B.tuple dY rfl) aC))))) (iS (bF mC (aQ aV rfl B.len fJ (aA (pv 0) aC)) aG (bK _)) (iS (dJ (cL (bD GAh OAh r1 rfl (aA (aT bO (pv 0) aG (fun _ _=>rfl)) aC)))) (jA (dJ (cL (bD GAh OAh r1 rfl (aA (aT bO (pv 0) aG (fun _ _=>rfl)) aC)))))))))
   (aJ (aR dG))
   bM)
  (aJ (aR (lC (gB xW (aT bO (pv 0) aG (fun _ _=>rfl)) aG (bK _)) (lZ (gB xW (aT bO (pv 0) aG (fun _ _=>rfl)) aG (bK _))))))),?_⟩
  refine ⟨_,rfl,x,iA d,rfl,hd.kd,_,rfl,?_⟩
  by_cases c:iA d=.tup
  ·obtain ⟨ds,rfl⟩:=xL c
   obtain ⟨p,us,rfl,hp,hus⟩:=bB.mp hd
   have hul:=aF hus
   refine mX (by rw [decide_eq_true c]; rfl) ?_
   refine ⟨_,rfl,p,_,rfl,.inr hp,rfl,_,rfl,?_⟩
   by_cases c2:ds.length=2
   ·match ds,c2,hus,kk with
    | [d1,d2],_,hus,kk =>
     obtain ⟨u1,r1,rfl,hu1,hr1⟩:=aH.mp hus
     obtain ⟨u2,r2,rfl,hu2,hr2⟩:=aH.mp hr1
     rw [aL.mp hr2] at hp ⊢
     refine gR ?_
     refine ⟨_,rfl,p,_,0,_,rfl,rfl,hp,rfl,u1,d1,rfl,hu1,_,rfl,?_⟩
     cases w1:bU d1 with
     | false =>
      have e:frV (.tuple [d1,d2])=false:=by
       rw [Jx]; intro z
       have:=(xK _ _ z).1
       rw [w1] at this; cases this
      rw [e] at kk
      exact hZ kk
     | true =>
      refine gR ?_
      refine ⟨_,rfl,p,_,1,_,rfl,rfl,hp,rfl,u2,d2,rfl,hu2,_,rfl,?_⟩
      cases w2:bU d2 with
      | false =>
       have e:frV (.tuple [d1,d2])=false:=by
        rw [Jx]; intro z
        have:=(xK _ _ z).2
        rw [w2] at this; cases this
       rw [e] at kk
       exact hZ kk
      | true =>
       obtain ⟨i,rfl⟩:=nK w1
       obtain ⟨j,rfl⟩:=nK w2
       cases bP.mp hu1
       cases bP.mp hu2
       refine gR ?_
       refine ⟨_,rfl,p,_,0,_,rfl,rfl,hp,rfl,_,_,rfl,rfl,_,rfl,?_⟩
       have e:frV (.tuple [.int i,.int j])=(decide (0<=i) && decide (1<=j)):=rfl
       rw [e] at kk
       refine gD (fun q=>?_) (fun q=>?_)
       ·have q':decide (0<=i)=true:=q
        rw [q',Jr] at kk
        exact ⟨_,rfl,p,_,1,_,rfl,rfl,hp,rfl,_,_,rfl,rfl,kk⟩
       ·have q':decide (0<=i)=false:=Jx.mpr q
        rw [q',Jz] at kk
        exact kk
   ·rw [rX c2] at kk
    refine lX ?_ kk
    rw [hul]
    simp
    omega
  ·rw [aDE c] at kk
   refine lX (by rw [decide_eq_false c]; rfl) kk
theorem aAz:FnScope ["thing"] ["thing"] (aI kQ):=⟨rfl,rfl,rfl,by decide +kernel,rfl,by decide +kernel,by decide +kernel⟩
theorem aET (G:Fn K mg "is_fraction" kQ ["thing"] f fd) (B:Bl mg) (R:Pr K mg fW fH fK fB fNB dW dH dK dB dNB):FnOk P w K mg base CX0 2 f fd ["thing"] (vP K):=by
 have OW:FnOk P w K mg base CX0 1 fW dW ["thing"] (jZ K):=oY R.W B
 refine G.fn.ok aAz (fun vs H Q E h=>?_) (fun cdv A outer s H vs Q E hr h=>?_)
 ·obtain ⟨x,d,rfl,_⟩:=h
  rfl
 ·obtain ⟨x,d,rfl,hd,k⟩:=h
  have r1:Room 1 _:=hr
  refine ⟨_,(aE (cX (PW.pt (iS (dJ (cL (aQ cQ rfl B.isinstance jR (aA (pv 0) (aA (eW (v:=.ty "tuple") rfl B.tuple dY rfl) aC))))) (jA (bF mC (aQ aV rfl B.len fJ (aA (pv 0) aC)) aG (bK _)))))
   (aJ (aR dG))
   bM)
  (aJ (aR (lC (aQ (kM rfl) rfl B.all vH (aA (cF (own:=["part"]) (fr:=[]) (frn:=[]) (aW (aI kQ) ["thing"] rfl rfl (by decide +kernel)) rfl (gC (pv 0))
    (fun _ _ _ _=>(aM (i:=0) (show (["part"]:List Str).Nodup by decide +kernel) rfl (Or.inl rfl))) (fun _ _ _ _=>cJ)
    (fun _ _ _ _=>(bD R.W OW r1 rfl (aA (pv 0) aC)))) aC)) (lC (gB xW (aT bO (pv 0) aG (fun _ _=>rfl)) aG (bK _)) (lZ (gB xW (aT bO (pv 0) aG (fun _ _=>rfl)) aG (bK _)))))))),?_⟩
  refine ⟨_,rfl,x,iA d,rfl,hd.kd,_,rfl,?_⟩
  by_cases c:iA d=.tup
  ·obtain ⟨ds,rfl⟩:=xL c
   obtain ⟨p,us,rfl,hp,hus⟩:=bB.mp hd
   have hul:=aF hus
   refine mX (by rw [decide_eq_true c]; rfl) ?_
   refine ⟨_,rfl,p,_,rfl,.inr hp,rfl,_,rfl,?_⟩
   by_cases c2:ds.length=2
   ·match ds,c2,hus,k with
    | [d1,d2],_,hus,k =>
     obtain ⟨u1,r1,rfl,hu1,hr1⟩:=aH.mp hus
     obtain ⟨u2,r2,rfl,hu2,hr2⟩:=aH.mp hr1
     rw [aL.mp hr2] at hp ⊢
     refine gR ?_
     refine ⟨_,rfl,p,rfl,⟨_,hp⟩,iV (K:=K) (a:=p) (xs:=[u1,u2]) (vs:=[bU d1,bU d2].map V.bl) (fun σ=>∃ v,σ = [v]) (show 2<=1000 by decide) rfl hp ⟨none,rfl⟩ ?_ ?_⟩
     ·rintro i u v σ H2 hu hv ⟨v0,rfl⟩ s2 Q' k'
      have eu:∃ d:PyData,Den K H d u/\v=.bl (bU d):=by
       match i,hu,hv with
       | 0,hu,hv=>exact ⟨d1,by cases hu; exact hu1,by simpa using hv.symm⟩
       | 1,hu,hv=>exact ⟨d2,by cases hu; exact hu2,by simpa using hv.symm⟩
      obtain ⟨dd,hdd,rfl⟩:=eu
      exact ⟨_,rfl,u,dd,rfl,s2.den _ _ hdd,k' _ _ ⟨_,rfl⟩ (aD.refl _)⟩
     ·intro H3 s3 q hq
      refine ⟨q,[bU d1,bU d2],rfl,SqL.of aB,?_⟩
      have s4:=s3.trans (aD.new (o:=.lst ([bU d1,bU d2].map V.bl)) hq)
      have kk:=k _ s4
      refine ⟨_,rfl,?_⟩
      cases w1:([bU d1,bU d2].all id) with
      | false =>
       have e:frV (.tuple [d1,d2])=false:=by
        rw [Jx]; intro z
        obtain ⟨z1,z2⟩:=xK _ _ z
        rw [z1,z2] at w1; cases w1
       rw [e] at kk
       exact gR kk
      | true =>
       refine hZ ?_
       have w2:bU d1=true/\bU d2=true:=by
        simpa using w1
       obtain ⟨i,rfl⟩:=nK w2.1
       obtain ⟨j,rfl⟩:=nK w2.2
       cases bP.mp hu1
       cases bP.mp hu2
       refine ⟨_,rfl,p,_,0,_,rfl,rfl,s4.seqT hp,rfl,_,_,rfl,rfl,_,rfl,?_⟩
       have e:frV (.tuple [.int i,.int j])=(decide (0<=i) && decide (1<=j)):=rfl
       rw [e] at kk
       refine gD (fun q=>?_) (fun q=>?_)
       ·have q':decide (0<=i)=true:=q
        rw [q',Jr] at kk
        exact ⟨_,rfl,p,_,1,_,rfl,rfl,s4.seqT hp,rfl,_,_,rfl,rfl,kk⟩
       ·have q':decide (0<=i)=false:=Jx.mpr q
        rw [q',Jz] at kk
        exact kk
   ·have kk:=k H (aD.refl _)
    rw [rX c2] at kk
    refine lX ?_ kk
    rw [hul]
    simp
    omega
  ·have kk:=k H (aD.refl _)
   rw [aDE c] at kk
   refine lX (by rw [decide_eq_false c]; rfl) kk
def aEU:Scope:=match (gZ mL).getD 1 (.Pass ⟨0,0,0,0⟩) with
 | .Assign _ (.Call _ [.ListComp _ _ sc _] _ _) _=>sc
 | _=>{ kind:=.function,names:=[],isGenerator:=false,isCoroutine:=false }
theorem kB (x:Int×Int):dZ (bA x)=true:=wV [x.1,x.2]
theorem kC (x:Int×Int):SeqAt.shaped (bA x)=true:=wU [x.1,x.2]
theorem zV (x y:Int×Int):PyData.eqv (bA x) (bA y)=decide (x=y):=by
 have h:=aBX [x.1,x.2] [y.1,y.2]
 have e:PyData.eqv (bA x) (bA y)=decide ([x.1,x.2] = [y.1,y.2]):=h
 rw [e]
 refine decide_eq_decide.mpr ⟨fun z=>?_,fun z=>by rw [z]⟩
 injection z with z1 z2
 injection z2 with z2
 exact Prod.ext z1 z2
theorem iO (h:aN K H ds vs) {i:Nat} (hv:vs[i]?=some v):∃ d,ds[i]?=some d/\Den K H d v:=aY (f:=id) (by rw [Wr]; exact h) hv
theorem pP (h:shB n ws wt ds=true):ds.length=ws.length/\∀ i,i < ws.length->gX n (ws.getD i []) (wt.getD i 0) (ds.getD i .none)=true:=by
 unfold shB at h
 rw [Jb,decide_eq_true_iff,Qy] at h
 exact ⟨h.1,fun i hi=>h.2 i (Js.mpr hi)⟩
theorem cZ {l:List α} {i:Nat} {x y:α} (h:l[i]?=some x):l.getD i y=x:=by rw [Jd,h]; rfl
theorem uC (f:Nat->Bool):((List.range m).map f).any id=(List.range m).any f:=by rw [Yj]; rfl
theorem xM (f:α->Bool) (l:List α):(l.map f).all id=l.all f:=by rw [Ys]; rfl
section
structure Itm (K:PySem.W.Frag) (H:Hp) (sp:Addr) (zs:List V) (n:Int) (ws:List (List Int)) (wt:List Int) (ds:List PyData):Prop where
 lst:H sp=some (.lst zs)
 den:aN K H ds zs
 row:∀ d∈ds,RowB d
 bk:eK (eM n ws)=true
 n4:n<=4
 m4:ws.length<=4
 wtk:tV ws wt
variable {sp:Addr} {n:Int}
theorem Itm.same (h:Itm K H sp zs n ws wt ds) (s:aD H H'):Itm K H' sp zs n ws wt ds:=⟨s _ _ h.lst,s.denAll _ _ h.den,h.row,h.bk,h.n4,h.m4,h.wtk⟩
theorem Itm.len (h:Itm K H sp zs n ws wt ds):zs.length=ds.length:=aF h.den
theorem Itm.rowOk (h:Itm K H sp zs n ws wt ds) (hs:shB n.toNat ws wt ds=true) {i:Nat} {z:V} (hz:zs[i]?=some z):∃ p us ps d,z=.ref p/\SqT K H p us/\aN K H (ps.map bA) us/\ds[i]?=some d/\oG d=ps/\ps.length=n.toNat/\us.length=n.toNat/\(∀ y∈ps,BdF y)/\bad (ws.getD i []) ps=false:=by
 obtain ⟨d,hd,hdn⟩:=iO h.den hz
 obtain ⟨e1,e2⟩:=pP hs
 have hi:i < ws.length:=by rw [<- e1]; exact (Qd.mp hd).1
 have q:=e2 i hi
 rw [cZ hd] at q
 obtain ⟨ps,q1,q2,q3,q4,q5⟩:=aCi q
 have hR:=h.row d (Qe hd)
 rw [q1] at hdn
 obtain ⟨p,us,rfl,hp,hus⟩:=bB.mp hdn
 exact ⟨p,us,ps,d,rfl,hp,hus,hd,q2,q3,by rw [aF hus,Qb,q3],aGf (q1 ▸ hR) q4,q5⟩
theorem Itm.cols (h:Itm K H sp zs n ws wt ds) (hs:shB n.toNat ws wt ds=true) (g:Nat):tP (aAy ds g):=by
 have e1:=(pP hs).1
 refine pN (fun x hx=>?_) (by unfold aAy; rw [Qb,e1]; exact h.m4)
 obtain ⟨d,hd,rfl⟩:=Qz.mp hx
 obtain ⟨i,hi⟩:=Xa.mp hd
 have hil:i < zs.length:=by rw [h.len]; exact (Qd.mp hi).1
 obtain ⟨p,us,ps,d',_,_,_,a,b,_,_,c,_⟩:=h.rowOk hs (Qc hil)
 rw [hi] at a
 cases a
 rw [b,Jd]
 cases z:ps[g]? with
 | none=>exact ⟨Xb _,by decide,Xb _,by decide⟩
 | some y=>exact c y (Qe z)
theorem aBj (h:Itm K H sp zs n ws wt ds) (hs:shB n.toNat ws wt ds=true):(pO n.toNat ds).length=n.toNat/\∀ x∈pO n.toNat ds,wY x:=by
 unfold pO
 refine ⟨by rw [Qb,Xk],fun x hx=>?_⟩
 obtain ⟨g,_,rfl⟩:=Qz.mp hx
 exact aCh (h.cols hs g)
def xN (K:PySem.W.Frag):Sp:=fun vs H Q _=>∃ (n x:Int) (ap:Addr) (rv:V) (l:List Int) (d:PyData),vs = [.int n,.ref ap,.int x,rv]/\SqT K H ap (l.map V.int)/\Den K H d rv/\RowB d/\0<=n/\n<=4/\∀ H',aD H H'->Q (.bl (gX n.toNat l x d)) H'
theorem aEV:FnScope ["hands", "able", "weight", "row"] ["hands", "able", "weight", "row"] (aI qF):=⟨rfl,rfl,rfl,by decide +kernel,rfl,by decide +kernel,by decide +kernel⟩
theorem aDG {fF:Addr} {dF:FuncData} (G:Fn K mg "is_share_row" qF ["hands", "able", "weight", "row"] f fd) (B:Bl mg) (GF:Fn K mg "is_fraction" kQ ["thing"] fF dF) (OF:FnOk P w K mg base CX0 2 fF dF ["thing"] (vP K)) (GTo:Fn K mg "total" qD ["some"] fT dT) (OTo:FnOk P w K mg base CX0 4 fT dT ["some"] (tQ K)):FnOk P w K mg base CX0 5 f fd ["hands", "able", "weight", "row"] (xN K):=by
 refine G.fn.ok aEV (fun vs H Q E h=>?_) (fun cdv A outer s H vs Q E hr h=>?_)
 ·obtain ⟨n,x,ap,rv,l,d,rfl,_⟩:=h
  rfl
 ·obtain ⟨n,x,ap,rv,l,d,rfl,hap,hd,hR,hn0,hn4,k⟩:=h
  have r2:Room 2 _:=hr.mono (by decide)
  have r4:Room 4 _:=hr
  refine ⟨_,(aE (cX (PW.pt (iS (dJ (cL (aQ cQ rfl B.isinstance jR (aA (pv 3) (aA (eW (v:=.ty "tuple") rfl B.tuple dY rfl) aC))))) (jA (bF mC (aQ aV rfl B.len fJ (aA (pv 3) aC)) (pv 0) (bK _)))))
   (aJ (aR dG))
   bM)
  (aE (cX (dJ (cL (aQ (kM rfl) rfl B.all vH (aA (cF (own:=["part"]) (fr:=[]) (frn:=[]) (aW (aI qF) ["hands", "able", "weight", "row"] rfl rfl (by decide +kernel)) rfl (gC (pv 3))
    (fun _ _ _ _=>(aM (i:=0) (show (["part"]:List Str).Nodup by decide +kernel) rfl (Or.inl rfl))) (fun _ _ _ _=>cJ)
    (fun _ _ _ _=>(bD GF OF r2 rfl (aA (pv 0) aC)))) aC))))
   (aJ (aR dG))
   bM)
  (aE (cX (cL (aQ (oS rfl) rfl B.any aBe (aA (cF (own:=["hand", "part"]) (fr:=[1]) (frn:=["able"]) (aW (aI qF) ["hands", "able", "weight", "row"] rfl rfl (by decide +kernel)) rfl (wC .t rfl B.enumerate (aA (pv 3) aC))
    (fun _ _ _ _=>(jH (K:=K) (n:=2) rfl rfl (aX (aM (i:=0) (show (["hand", "part", "able"]:List Str).Nodup by decide +kernel) rfl (Or.inl rfl)) (aX (aM (i:=1) (show (["hand", "part", "able"]:List Str).Nodup by decide +kernel) rfl (Or.inl rfl)) dQ)))) (fun _ _ _ _=>cJ)
    (fun _ _ _ _=>(lC (gB mD (aT (bT (K:=K) rfl) (pv 1) aG (fun _ _=>rfl)) aG (bK _)) (lZ (gB (gS (K:=K) rfl) (pv 0) (pv 2) (by with_unfolding_all rfl)))))) aC)))
   (aJ (aR dG))
   bM)
  (aJ (aR (gB (aCE hr.u64) (bD GTo OTo r4 rfl (aA (pv 3) aC)) (bG (aA (pv 2) (aA aG aC))) (bK _))))))),?_⟩
  refine ⟨_,rfl,rv,iA d,rfl,hd.kd,_,rfl,?_⟩
  by_cases c:iA d=.tup
  ·obtain ⟨ds,rfl⟩:=xL c
   obtain ⟨rp,us,rfl,hrp,hus⟩:=bB.mp hd
   have hul:=aF hus
   refine mX (by rw [decide_eq_true c]; rfl) ?_
   refine ⟨_,rfl,rp,_,rfl,.inr hrp,_,rfl,rfl,_,rfl,?_⟩
   by_cases c2:ds.length=n.toNat
   ·refine mX (by rw [hul,c2,Yp hn0]; exact pE _) ?_
    refine ⟨_,rfl,rp,rfl,⟨_,hrp⟩,iV (K:=K) (a:=rp) (xs:=us) (vs:=(ds.map frV).map V.bl) (fun σ=>∃ v,σ = [v]) (by omega) (by simp [hul]) hrp ⟨none,rfl⟩ ?_ ?_⟩
    ·rintro i u v σ H2 hu hv ⟨v0,rfl⟩ s2 Q' k'
     obtain ⟨e,he,hed⟩:=iO hus hu
     rw [Qh,Qh,he] at hv
     cases hv
     exact ⟨_,rfl,u,e,rfl,s2.den _ _ hed,fun H3 s3=>k' _ _ ⟨_,rfl⟩ s3⟩
    ·intro H2 s2 pb hpb
     refine ⟨pb,ds.map frV,rfl,SqL.of aB,_,rfl,?_⟩
     rw [xM]
     have s3:=s2.trans (aD.new (o:=.lst ((ds.map frV).map V.bl)) hpb)
     generalize upd H2 pb (.lst ((ds.map frV).map V.bl))=H3 at s3 ⊢
     have kk:=fun H' s'=>k H' s'
     cases ha:ds.all frV with
     | false =>
      have e:gX n.toNat l x (.tuple ds)=false:=by
       show (decide (ds.length=n.toNat) && (ds.all frV && _))=false
       rw [ha,Jz,Wm]
      rw [e] at k
      exact hZ (k _ s3)
     | true =>
      refine gR ?_
      have eds:(ds.map frP).map bA=ds:=by
       rw [Zb]
       conv=>rhs; rw [<- Wr ds]
       exact Xz fun e he=>(pK (Qy.mp ha e he)).1.symm
      have hbd:∀ y∈ds.map frP,BdF y:=fun y hy=>by
       obtain ⟨e,he,rfl⟩:=Qz.mp hy
       exact (hR.fr _ rfl e he).bd (Qy.mp ha e he)
      have hpl:(ds.map frP).length=us.length:=by rw [Qb,hul]
      have esh:gX n.toNat l x (.tuple ds)=(!bad l (ds.map frP) && decide (eT (ds.map frP)=(x,1))):=by
       show (decide (ds.length=n.toNat) && (ds.all frV && _))=_
       rw [ha,decide_eq_true c2,Jr,Jr]
      rw [esh] at k
      rw [<- eds] at hus
      generalize ds.map frP=ps at hus hbd hpl k
      refine ⟨_,rfl,rp,_,rfl,s3.seqT hrp,yT (K:=K) (k:=.t) (a:=rp) (xs:=us) (vs:=((List.range ps.length).map (gL l ps)).map V.bl) (fun σ=>∃ v w,σ = [v,w,some (.ref ap)]) (by omega) (by simp [hpl]) (fun H' s'=>s'.seqT (s3.seqT hrp)) ⟨none,none,rfl⟩ ?_ ?_⟩
      ·rintro i u v q σ H4 hu hv hq ⟨v0,w0,rfl⟩ s4 Q' k'
       have hil:i < us.length:=(Qd.mp hu).1
       rw [Qh,Qh,Xc (by omega)] at hv
       cases hv
       obtain ⟨y,hy,hyd⟩:=aY hus hu
       obtain ⟨p,rfl,hp⟩:=bE.mp hyd
       have ey:gL l ps i=(decide (0 < y.1) && !inS l (i:Int)):=by unfold gL; rw [cZ hy]
       have sq:=aD.new (o:=.tup [.int (i:Nat),.ref p]) hq
       have s34:=(s3.trans s4).trans sq
       refine ⟨q,_,rfl,SqT.of aB,rfl,_,_,rfl,_,_,rfl,rfl,?_⟩
       refine ⟨_,rfl,p,_,0,_,rfl,rfl,s34.seqT hp,rfl,_,_,rfl,rfl,_,rfl,?_⟩
       refine gD (fun c=>?_) (fun c=>?_)
       ·refine ⟨_,rfl,_,rfl,ap,_,rfl,.inr (s34.seqT hap),rfl,jL _,?_⟩
        have e:(!inV (.int (i:Int)) (l.map V.int))=gL l ps i:=by
         rw [jV,ey,show decide (0 < y.1)=true from c,Jr]
        show Q' (.bl (!inV (.int (i:Int)) (l.map V.int))) _ _
        rw [e]
        exact k' _ _ ⟨_,_,rfl⟩ sq
       ·have e:gL l ps i=false:=by
         have c':decide (0 < y.1)=false:=Jx.mpr c
         rw [ey,c',Jz]
        rw [e] at k'
        exact k' _ _ ⟨_,_,rfl⟩ sq
      ·intro H4 s4 pc hpc
       refine ⟨pc,(List.range ps.length).map (gL l ps),rfl,SqL.of aB,_,rfl,?_⟩
       rw [uC]
       have s5:=s3.trans (s4.trans (aD.new (o:=.lst (((List.range ps.length).map (gL l ps)).map V.bl)) hpc))
       generalize upd H4 pc (.lst (((List.range ps.length).map (gL l ps)).map V.bl))=H5 at s5 ⊢
       refine gD (fun c=>?_) (fun c=>?_)
       ·rw [show bad l ps=true from c] at k
        exact k _ s5
       ·rw [show bad l ps=false from Jx.mpr c] at k
        refine ⟨_,rfl,rp,us,ps,rfl,s5.seqT hrp,s5.denAll _ _ hus,pN hbd (by omega),fun pt H6 s6 hpt=>?_⟩
        refine ⟨_,rfl,sz2 _ _,fun pw hpw=>?_⟩
        have s7:=aD.new (o:=.tup [.int x,.int 1]) hpw
        refine ⟨bA (eT ps),bA (x,1),bE.mpr ⟨pt,rfl,s7.seqT hpt⟩,bE.mpr ⟨pw,rfl,SqT.of aB⟩,kB _,kB _,kC _,kC _,?_⟩
        rw [zV]
        exact k _ (s5.trans (s6.trans s7))
   ·have e:gX n.toNat l x (.tuple ds)=false:=by
     show (decide (ds.length=n.toNat) && _)=false
     rw [decide_eq_false c2,Jz]
    rw [e] at k
    refine lX ?_ (k _ (aD.refl _))
    rw [hul]
    simp
    omega
  ·have e:gX n.toNat l x d=false:=by
    cases d <;> first | rfl | exact absurd rfl c
   rw [e] at k
   exact lX (by rw [decide_eq_false c]; rfl) (k _ (aD.refl _))
def iI (K:PySem.W.Frag) (t:Nat->List (List Int)->List Int->List PyData->Bool):Sp:=fun vs H Q _=>∃ (x:V) (wp sp:Addr) (zs:List V) (n:Int) (ws:List (List Int)) (wt:List Int) (ds:List PyData),vs = [x,.ref wp,.ref sp]/\Den K H (eM n ws) x/\SqT K H wp (wt.map V.int)/\Itm K H sp zs n ws wt ds/\∀ H',aD H H'->Q (.bl (t n.toNat ws wt ds)) H'
theorem aBk:FnScope ["book", "weights", "shares", "rows"] ["book", "weights", "shares"] (aI qG):=⟨rfl,rfl,rfl,by decide +kernel,rfl,by decide +kernel,by decide +kernel⟩
theorem aDH {fR:Addr} {dR:FuncData} (G:Fn K mg "are_shares" qG ["book", "weights", "shares"] f fd) (B:Bl mg) (GNW:Fn K mg "need_weights" oT ["book", "weights"] fN dN) (ONW:FnOk P w K mg base CX0 6 fN dN ["book", "weights"] (pF K)) (GSr:Fn K mg "is_share_row" qF ["hands", "able", "weight", "row"] fR dR) (OSr:FnOk P w K mg base CX0 5 fR dR ["hands", "able", "weight", "row"] (xN K)):FnOk P w K mg base CX0 7 f fd ["book", "weights", "shares"] (iI K shB):=by
 refine G.fn.ok aBk (fun vs H Q E h=>?_) (fun cdv A outer s H vs Q E hr h=>?_)
 ·obtain ⟨x,wp,sp,zs,n,ws,wt,ds,rfl,_⟩:=h
  rfl
 ·obtain ⟨x,wp,sp,zs,n,ws,wt,ds,rfl,hx,hwp,S,k⟩:=h
  have r6:Room 6 _:=hr
  have r5:Room 5 _:=hr.mono (by decide)
  refine ⟨_,(aE (gM (bD GNW ONW r6 rfl (aA (pv 0) (aA (pv 1) aC))))
  (aE (cX (PW.pt (iS (dJ (cL (aQ uJ rfl B.isinstance jR (aA (pv 2) (aA (eW (v:=.ty "list") rfl B.list qC rfl) aC))))) (jA (bF mC (aQ aV rfl B.len fJ (aA (pv 2) aC)) (aQ aV rfl B.len fJ (aA (pv 1) aC)) (bK _)))))
   (aJ (aR dG))
   bM)
  (aE (aS (i:=3) aBk.nd rfl (Or.inl rfl) (yW .t .t .l rfl rfl B.list rfl B.zip (aA (aT bO (pv 0) aG (fun _ _=>rfl)) (aA (pv 1) (aA (pv 2) aC)))))
  (aJ (aR (aQ (kM rfl) rfl B.all vH (aA (cF (own:=["able", "weight", "row"]) (fr:=[0]) (frn:=["book"]) (aW (aI qG) ["book", "weights", "shares", "rows"] rfl rfl (by decide +kernel)) rfl (cN (pv 3))
    (fun _ _ _ _=>(jH (K:=K) (n:=3) rfl rfl (aX (aM (i:=0) (show (["able", "weight", "row", "book"]:List Str).Nodup by decide +kernel) rfl (Or.inl rfl)) (aX (aM (i:=1) (show (["able", "weight", "row", "book"]:List Str).Nodup by decide +kernel) rfl (Or.inl rfl)) (aX (aM (i:=2) (show (["able", "weight", "row", "book"]:List Str).Nodup by decide +kernel) rfl (Or.inl rfl)) dQ))))) (fun _ _ _ _=>cJ)
    (fun _ _ _ _=>(bD GSr OSr r5 rfl (aA (aT (bT (K:=K) rfl) (pv 3) aG (fun _ _=>rfl)) (aA (pv 0) (aA (pv 1) (aA (pv 2) aC))))))) aC))))))),?_⟩
  obtain ⟨a,b,ys,rfl,ha,hb,hys⟩:=fM hx
  have hly:=aF hys
  rw [Qb] at hly
  obtain ⟨hn1,hn6,h12,hws⟩:=cC S.bk
  refine ⟨_,rfl,_,rfl,_,n,ws,wp,wt,rfl,hx,S.bk,hwp,S.wtk,fun H1 s1=>?_⟩
  have S1:=S.same s1
  have hn4:=S.n4
  have hm4:=S.m4
  refine ⟨_,rfl,.ref sp,.lst,rfl,(eF.mpr ⟨sp,zs,rfl,SqL.of S1.lst,S1.den⟩:Den K H1 (.list ds) (.ref sp)).kd,_,rfl,gR ?_⟩
  refine ⟨_,rfl,sp,_,rfl,.inl (SqL.of S1.lst),_,rfl,wp,_,rfl,.inr (s1.seqT hwp),rfl,_,rfl,?_⟩
  by_cases c:ds.length=ws.length
  ·refine mX (by rw [Qb,S.len,S.wtk.1,c]; exact pE _) ?_
   refine ⟨_,rfl,a,_,1,.ref b,rfl,rfl,s1.seqT ha,rfl,_,rfl,_,rfl,b,wp,sp,ys,_,zs,rfl,s1.seqT hb,s1.seqT hwp,SqL.of S1.lst,by rw [sizeLine_eq]; omega,by rw [Qb,S.wtk.1,hly],by rw [S.len,hly,c],fun rp qs H2 s2 nrp hrp hql hprs=>?_⟩
   dsimp only [cH]
   have s12:=s1.trans s2
   have S2:=S.same s12
   refine ⟨_,rfl,rp,rfl,⟨_,SqL.of hrp⟩,sP (K:=K) (a:=rp) (xs:=qs) (vs:=((List.range ws.length).map fun i=>gX n.toNat (ws.getD i []) (wt.getD i 0) (ds.getD i .none)).map V.bl) (fun σ=>∃ u v t,σ = [u,v,t,some (.ref a)]) (by omega) (by simp; omega) (SqL.of hrp) ⟨none,none,none,rfl⟩ ?_ ?_⟩
   ·rintro i u v σ H3 hu hv ⟨v0,w0,t0,rfl⟩ s3 Q' k'
    obtain ⟨q,x1,x2,x3,rfl,e1,e2,e3,hq⟩:=hprs i u hu
    obtain ⟨l,hl1,hl2⟩:=aY hys e1
    obtain ⟨al,rfl,hal⟩:=bV.mp hl2
    obtain ⟨y,hy,rfl⟩:=iH e2
    have hil:i < ws.length:=(Qd.mp hl1).1
    have s13:=s12.trans s3
    obtain ⟨d,hd,hdn⟩:=iO (S.same s13).den e3
    rw [Qh,Qh,Xc hil] at hv
    cases hv
    dsimp only at k'
    rw [cZ hl1,cZ hy,cZ hd] at k'
    refine ⟨q,_,rfl,SqT.of (s3 _ _ hq),rfl,_,_,rfl,_,_,rfl,_,_,rfl,rfl,?_⟩
    exact ⟨_,rfl,a,_,0,.int n,rfl,rfl,s13.seqT ha,rfl,_,rfl,_,rfl,_,rfl,n,y,al,x3,l,d,rfl,s13.seqT hal,hdn,S.row d (Qe hd),by omega,hn4,fun H4 s4=>k' _ _ ⟨_,_,_,rfl⟩ s4⟩
   ·intro H3 s3 pb hpb
    refine ⟨pb,(List.range ws.length).map fun i=>gX n.toNat (ws.getD i []) (wt.getD i 0) (ds.getD i .none),rfl,SqL.of aB,?_⟩
    rw [xM]
    have e:shB n.toNat ws wt ds=(List.range ws.length).all fun i=>gX n.toNat (ws.getD i []) (wt.getD i 0) (ds.getD i .none):=by
     unfold shB
     rw [decide_eq_true c,Jr]
    rw [e] at k
    exact k _ (s12.trans (s3.trans (aD.new hpb)))
  ·have e:shB n.toNat ws wt ds=false:=by
    unfold shB
    rw [decide_eq_false c,Jz]
   rw [e] at k
   refine lX ?_ (k _ s1)
   rw [Qb,S.len,S.wtk.1]
   simp
   omega
end
def aEW:Scope:=match (gZ nZ).getD 0 (.Pass ⟨0,0,0,0⟩) with
 | .Return (some (.ListComp _ _ sc _)) _=>sc
 | _=>{ kind:=.function,names:=[],isGenerator:=false,isCoroutine:=false }
theorem zW (ds:List PyData):PyData.eqv (.list ds) (.list [])=ds.isEmpty:=by
 rw [PyData.eqv]
 cases ds <;> simp [PyData.eqvAll]
theorem aEX (l:List Bool):inV (.bl false) (l.map V.bl)=!l.all id:=by
 unfold inV
 rw [Yj]
 induction l with
 | nil=>rfl
 | cons b l ih =>
  rw [Zq,Ya,ih]
  have e0:eqV (V.bl false) (V.bl false)=true:=by decide
  have e1:eqV (V.bl true) (V.bl false)=false:=by decide
  cases b <;> simp [Function.comp_def,e0,e1]
theorem aDI (l:List Bool):(l.map V.bl).all nQ=true:=by
 rw [Ys]
 exact Qy.mpr fun _ _=>rfl
theorem aBl (hs:shB n ws wt ds=true):lvB n ws wt ds=(List.range ws.length).all fun i=>!bad (bR (lsF (pO n ds)) (ws.getD i [])) (oG (ds.getD i .none)):=by
 unfold lvB
 rw [hs,Jr]
theorem lS {i:Nat} {f:Nat->Bool} (h:i < m) (e:f i=false):(List.range m).all f=false:=by
 rw [Jx]
 intro z
 have:=Qy.mp z i (Js.mpr h)
 rw [e] at this; cases this
theorem kG {f:Nat->Bool} (h:∀ i,i < m->f i=true):(List.range m).all f=true:=Qy.mpr fun i hi=>h i (Js.mp hi)
theorem pQ:FnScope ["book", "weights", "shares", "loads", "able", "row", "least"] ["book", "weights", "shares"] (aI mL):=⟨rfl,rfl,rfl,by decide +kernel,rfl,by decide +kernel,by decide +kernel⟩
theorem aDJ (G:Fn K mg "are_level" mL ["book", "weights", "shares"] f fd) (B:Bl mg) (GAs:Fn K mg "are_shares" qG ["book", "weights", "shares"] fA dA) (OAs:FnOk P w K mg base CX0 7 fA dA ["book", "weights", "shares"] (iI K shB)) (GTo:Fn K mg "total" qD ["some"] fT dT) (OTo:FnOk P w K mg base CX0 4 fT dT ["some"] (tR K)) (GLl:Fn K mg "least_loaded" jY ["able", "loads"] fL dL) (OLl:FnOk P w K mg base CX0 2 fL dL ["able", "loads"] (pJ K)):FnOk P w K mg base CX0 8 f fd ["book", "weights", "shares"] (iI K lvB):=by
 refine G.fn.ok pQ (fun vs H Q E h=>?_) (fun cdv A outer s H vs Q E hr h=>?_)
 ·obtain ⟨x,wp,sp,zs,n,ws,wt,ds,rfl,_⟩:=h
  rfl
 ·obtain ⟨x,wp,sp,zs,n,ws,wt,ds,rfl,hx,hwp,S,k⟩:=h
  have r7:Room 7 _:=hr
  have r4:Room 4 _:=hr.mono (by decide)
  have r2:Room 2 _:=hr.mono (by decide)
  refine ⟨_,(aE (cX (dJ (cL (bD GAs OAs r7 rfl (aA (pv 0) (aA (pv 1) (aA (pv 2) aC))))))
   (aJ (aR dG))
   bM)
  (aE (aS (i:=3) pQ.nd rfl (Or.inl rfl) (cE fX rfl B.tuple dY (aA (sN (z0 := "hand") (own:=["hand"]) (fr:=[2]) (frn:=["shares"]) (lI (aI mL) ["book", "weights", "shares", "loads", "able", "row", "least"] rfl rfl (fun _ _=>rfl) (fun _=>rfl) (by decide +kernel)) rfl (cT rfl B.range (aA (aT bO (pv 0) aG (fun _ _=>rfl)) aC))
    (fun _ _ _ _=>(aM (i:=0) (show (["hand", "shares"]:List Str).Nodup by decide +kernel) rfl (Or.inr rfl))) (fun _ _ _ _=>cJ)
    (fun _ _ _ _=>(bD GTo OTo r4 rfl (aA (cF (own:=["row"]) (fr:=[0]) (frn:=["hand"]) (aW (aCO aEU (aI mL)) ["hand", "shares"] rfl rfl (by decide +kernel)) rfl (yK (K:=K) rfl (pv 1))
    (fun _ _ _ _=>(aM (i:=0) (show (["row", "hand"]:List Str).Nodup by decide +kernel) rfl (Or.inl rfl))) (fun _ _ _ _=>cJ)
    (fun _ _ _ _=>(aT (bT (K:=K) rfl) (pv 0) (pv 1) (fun _ _=>rfl)))) aC)))) aC)))
  (aE (cU PassesOwn.never rfl (aCH .t .l rfl B.zip (aA (aT bO (pv 0) aG (fun _ _=>rfl)) (aA (pv 2) aC))) (kE rfl (aX (aM (i:=4) pQ.nd rfl (Or.inl rfl)) (aX (aM (i:=5) pQ.nd rfl (Or.inl rfl)) dQ)))
   (aE (aS (i:=6) pQ.nd rfl (Or.inr rfl) (bD GLl OLl r2 rfl (aA (pv 4) (aA (pv 3) aC))))
  (aJ (cX (cL (aQ (oS rfl) rfl B.any aBe (aA (cF (own:=["hand", "part"]) (fr:=[6]) (frn:=["least"]) (aW (aI mL) ["book", "weights", "shares", "loads", "able", "row", "least"] rfl rfl (by decide +kernel)) rfl (wC .t rfl B.enumerate (aA (pv 5) aC))
    (fun _ _ _ _=>(jH (K:=K) (n:=2) rfl rfl (aX (aM (i:=0) (show (["hand", "part", "least"]:List Str).Nodup by decide +kernel) rfl (Or.inl rfl)) (aX (aM (i:=1) (show (["hand", "part", "least"]:List Str).Nodup by decide +kernel) rfl (Or.inl rfl)) dQ)))) (fun _ _ _ _=>cJ)
    (fun _ _ _ _=>(lC (gB mD (aT (bT (K:=K) rfl) (pv 1) aG (fun _ _=>rfl)) aG (bK _)) (lZ (gB (gS (K:=K) rfl) (pv 0) (pv 2) (by with_unfolding_all rfl)))))) aC)))
   (aJ (aR dG))
   bM))))
  (aJ (aR dG))))),?_⟩
  obtain ⟨a,b,ys,rfl,ha,hb,hys⟩:=fM hx
  have hly:=aF hys
  rw [Qb] at hly
  obtain ⟨hn1,hn6,h12,hws⟩:=cC S.bk
  have hn4:=S.n4
  have hm4:=S.m4
  refine ⟨_,rfl,_,rfl,_,rfl,_,wp,sp,zs,n,ws,wt,ds,rfl,hx,hwp,S,fun H1 s1=>⟨_,rfl,?_⟩⟩
  have S1:=S.same s1
  cases hs:shB n.toNat ws wt ds with
  | false =>
   have e:lvB n.toNat ws wt ds=false:=by unfold lvB; rw [hs,Jz]
   rw [e] at k
   exact hZ (k _ s1)
  | true =>
  refine gR ?_
  rw [aBl hs] at k
  have hdl:=(pP hs).1
  have hzl:zs.length=ws.length:=by rw [S.len,hdl]
  obtain ⟨hll,hlo⟩:=aBj S hs
  -- the loads
  refine ⟨_,rfl,a,_,0,.int n,rfl,rfl,s1.seqT ha,rfl,n,rfl,by omega,by omega,eY (lo:=0) (n:=n.toNat) (fun σ=>∃ v,σ = [v,some (.ref sp)]) (fun i as H2=>aD H1 H2/\aN K H2 ((((List.range n.toNat).take i).map fun h=>eT (aAy ds h)).map bA) as) (cA (by omega)) ⟨none,rfl⟩ ⟨aD.refl _,aL.mpr rfl⟩ ?_ ?_ ?_⟩
  ·rintro i as H2 ⟨_,d2⟩
   rw [aF d2,Qb,Qb,Ja]
   exact Jv _ _
  ·rintro i as σ H2 hi ⟨v,rfl⟩ ⟨s2,d2⟩ hz
   have S2:=S1.same s2
   refine eL ?_
   refine ⟨_,rfl,sp,rfl,⟨_,SqL.of S2.lst⟩,gN (K:=K) (a:=sp) (xs:=zs) (fun σ=>∃ v,σ = [v,some (.int (0+(i:Int)))]) (fun j cs H3=>H3=H2/\aN K H2 (((ds.take j).map fun d=>(oG d).getD i (0,1)).map bA) cs) (cA (by omega)) ⟨none,rfl⟩ ⟨rfl,aL.mpr rfl⟩ ?_ (fun j cs H3 ⟨e,_⟩=>by rw [e]; exact SqL.of S2.lst) ?_ ?_⟩
   ·rintro j cs H3 ⟨_,d3⟩
    rw [aF d3,Qb,Qb,Ja]
    exact Jv _ _
   ·rintro j cs σ y H3 hy ⟨v,rfl⟩ ⟨rfl,d3⟩ hz2
    obtain ⟨p,us,ps,d,rfl,hp,hus,hd,hrp,hpl,hul,hbd,_⟩:=S2.rowOk hs hy
    have hu:=Qc (show i < us.length by omega)
    generalize us[i]'(by omega)=u at hu
    obtain ⟨y2,hy2,hyd⟩:=aY hus hu
    refine eL ?_
    refine ⟨_,rfl,_,rfl,p,_,_,u,rfl,rfl,hp,by rw [Xv]; exact bX hu,hz2,⟨_,rfl⟩,rfl,?_⟩
    rw [bH hd,Qr,Qr]
    refine aZ d3 (aH.mpr ⟨_,_,rfl,?_,aL.mpr rfl⟩)
    show Den K H3 (bA ((oG d).getD i (0,1))) u
    rw [hrp,cZ hy2]
    exact hyd
   ·rintro cs H3 ⟨rfl,d3⟩ pl hpl
    rw [S.len,Jh] at d3
    refine ⟨pl,cs,aAy ds i,rfl,SqL.of aB,(aD.new hpl).denAll _ _ d3,S.cols hs i,fun pt H4 s4 hpt=>?_⟩
    refine ⟨hz,⟨_,rfl⟩,s2.trans ((aD.new hpl).trans s4),?_⟩
    rw [bH (Xc hi),Qr,Qr]
    exact aZ (((aD.new hpl).trans s4).denAll _ _ d2) (aH.mpr ⟨_,_,rfl,bE.mpr ⟨pt,rfl,hpt⟩,aL.mpr rfl⟩)
  ·rintro as H2 ⟨s2,d2⟩ pl hpl
   rw [Jt (by rw [Xk]; exact Qg _)] at d2
   refine ⟨pl,as,rfl,.inl ⟨SqL.of aB,fun lp hlp=>?_⟩⟩
   have s3:=(aD.new (o:=.lst as) hpl).trans (aD.new (o:=.tup as) hlp)
   have s13:=s1.trans (s2.trans s3)
   have d3:aN K _ ((pO n.toNat ds).map bA) as:=s3.denAll _ _ d2
   have e3:SqT K (upd (upd H2 pl (.lst as)) lp (.tup as)) lp as:=SqT.of aB
   generalize upd (upd H2 pl (.lst as)) lp (.tup as)=H3 at s3 s13 d3 e3 ⊢
   dsimp only [cH]
   have S3:=S.same s13
   refine ⟨_,rfl,a,_,1,.ref b,rfl,rfl,s13.seqT ha,rfl,_,rfl,b,sp,_,_,rfl,s13.seqT hb,SqL.of S3.lst,aAU (K:=K) (k1:=.t) (k2:=.l) (a:=b) (b:=sp) (xs:=ys) (ys:=zs) (fun i σ H4=>(∃ v4 v5 v6,σ = [some (.ref a),some (.ref wp),some (.ref sp),some (.ref lp),v4,v5,v6])/\aD H3 H4/\∀ j,j < i->bad (bR (lsF (pO n.toNat ds)) (ws.getD j [])) (oG (ds.getD j .none))=false) (by rw [hzl,hly]) ⟨⟨_,_,_,rfl⟩,aD.refl _,fun j hj=>absurd hj (Yd _)⟩ (fun i σ H4 _ ⟨_,s4,_⟩=>⟨(s13.trans s4).seqT hb,SqL.of (s4 _ _ S3.lst)⟩) ?_ ?_⟩
   ·rintro i x1 x2 q σ H4 h1 h2 ⟨⟨v4,v5,v6,rfl⟩,s4,hB⟩ hq
    obtain ⟨l,hl1,hl2⟩:=aY hys h1
    obtain ⟨al,rfl,hal⟩:=bV.mp hl2
    obtain ⟨p,us,ps,d,rfl,hp,hus,hd,hrp,hpl2,hul,hbd,_⟩:=S3.rowOk hs h2
    have hil:i < ws.length:=(Qd.mp hl1).1
    obtain ⟨c1,c2,c3⟩:=hJ (hws l (Qe hl1))
    have hl6:=hU (by omega) c2 c3
    have sq:=s4.trans (aD.new (o:=.tup [.ref al,.ref p]) hq)
    have s14:=s13.trans sq
    have eq:upd H4 q (.tup [.ref al,.ref p]) q=some (.tup [.ref al,.ref p]):=aB
    generalize upd H4 q (.tup [.ref al,.ref p])=H5 at sq s14 eq ⊢
    refine ⟨q,_,rfl,SqT.of eq,rfl,_,_,rfl,_,_,rfl,rfl,?_⟩
    refine ⟨_,rfl,_,rfl,al,lp,l,as,pO n.toNat ds,rfl,s14.seqT hal,sq.seqT e3,sq.denAll _ _ d3,hlo,by omega,fun h hh=>by rw [hll]; have:=c2 h hh; omega,fun pL H6 s6 np ep=>?_⟩
    have ebi:bad (bR (lsF (pO n.toNat ds)) (ws.getD i [])) (oG (ds.getD i .none))=bad (bR (lsF (pO n.toNat ds)) l) ps:=by rw [cZ hl1,cZ hd,hrp]
    dsimp only [cH]
    have s16:=sq.trans s6
    generalize bR (lsF (pO n.toNat ds)) l=ll at ep ebi
    refine ⟨_,rfl,p,_,rfl,s16.seqT hp,yT (K:=K) (k:=.t) (a:=p) (xs:=us) (vs:=((List.range ps.length).map (gL ll ps)).map V.bl) (fun σ=>∃ v w,σ = [v,w,some (.ref pL)]) (by omega) (by simp; omega) (fun H' s'=>s'.seqT (s16.seqT hp)) ⟨none,none,rfl⟩ ?_ ?_⟩
    ·rintro j u v qq σ H7 hu hv hqq ⟨v0,w0,rfl⟩ s7 Q' k'
     have hjl:j < us.length:=(Qd.mp hu).1
     rw [Qh,Qh,Xc (by omega)] at hv
     cases hv
     obtain ⟨y,hy,hyd⟩:=aY hus hu
     obtain ⟨pp,rfl,hpp⟩:=bE.mp hyd
     have ey:gL ll ps j=(decide (0 < y.1) && !inS ll (j:Int)):=by unfold gL; rw [cZ hy]
     have sqq:=aD.new (o:=.tup [.int (j:Nat),.ref pp]) hqq
     have s17:=(s16.trans s7).trans sqq
     refine ⟨qq,_,rfl,SqT.of aB,rfl,_,_,rfl,_,_,rfl,rfl,?_⟩
     refine ⟨_,rfl,pp,_,0,_,rfl,rfl,s17.seqT hpp,rfl,_,_,rfl,rfl,_,rfl,?_⟩
     refine gD (fun c=>?_) (fun c=>?_)
     ·refine ⟨_,rfl,_,rfl,pL,_,rfl,.inl (SqL.of ((s7.trans sqq) _ _ ep)),rfl,jL _,?_⟩
      have e:(!inV (.int (j:Int)) (ll.map V.int))=gL ll ps j:=by
       rw [jV,ey,show decide (0 < y.1)=true from c,Jr]
      show Q' (.bl (!inV (.int (j:Int)) (ll.map V.int))) _ _
      rw [e]
      exact k' _ _ ⟨_,_,rfl⟩ sqq
     ·have e:gL ll ps j=false:=by
       have c':decide (0 < y.1)=false:=Jx.mpr c
       rw [ey,c',Jz]
      rw [e] at k'
      exact k' _ _ ⟨_,_,rfl⟩ sqq
    ·intro H7 s7 pc hpc
     refine ⟨pc,(List.range ps.length).map (gL ll ps),rfl,SqL.of aB,_,rfl,?_⟩
     rw [uC]
     have s8:=s16.trans (s7.trans (aD.new (o:=.lst (((List.range ps.length).map (gL ll ps)).map V.bl)) hpc))
     refine gD (fun c=>?_) (fun c=>?_)
     ·have e:=lS (m:=ws.length) (f:=fun i=>!bad (bR (lsF (pO n.toNat ds)) (ws.getD i [])) (oG (ds.getD i .none))) hil (by rw [ebi,show bad ll ps=true from c]; rfl)
      rw [e] at k
      exact k _ (s13.trans s8)
     ·refine ⟨⟨_,_,_,rfl⟩,s8,fun j hj=>?_⟩
      by_cases hji:j=i
      ·rw [hji,ebi]; exact Jx.mpr c
      ·exact hB j (by omega)
   ·rintro σ H4 ⟨⟨v4,v5,v6,rfl⟩,s4,hB⟩
    rw [kG (fun i hi=>by rw [hB i (by omega)]; rfl)] at k
    exact k _ (s13.trans s4)
theorem uD:FnScope ["book", "weights", "shares", "at", "row"] ["book", "weights", "shares"] (aI lL):=⟨rfl,rfl,rfl,by decide +kernel,rfl,by decide +kernel,by decide +kernel⟩
theorem aCk {fF:Addr} {dF:FuncData} (G:Fn K mg "_law_aare_shares" lL ["book", "weights", "shares"] f fd) (B:Bl mg) (GFr:Fn K mg "_law_afraction" wQ ["thing"] fF dF) (OFr:FnOk P w K mg base CX0 2 fF dF ["thing"] (vP K)) (GSu:Fn K mg "_law_asum" vI ["some"] fU dU) (OSu:FnOk P w K mg base CX0 2 fU dU ["some"] (tS K)):FnOk P w K mg base CX0 3 f fd ["book", "weights", "shares"] (iI K shB):=by
 refine G.fn.ok uD (fun vs H Q E h=>?_) (fun cdv A outer s H vs Q E hr h=>?_)
 ·obtain ⟨x,wp,sp,zs,n,ws,wt,ds,rfl,_⟩:=h
  rfl
 ·obtain ⟨x,wp,sp,zs,n,ws,wt,ds,rfl,hx,hwp,S,k⟩:=h
  have r2:Room 2 _:=hr
  refine ⟨_,(aE (cX (bF mC (aQ aV rfl B.len fJ (aA (pv 2) aC)) (aQ aV rfl B.len fJ (aA (aT bO (pv 0) aG (fun _ _=>rfl)) aC)) (bK _))
   (aJ (aR dG))
   bM)
  (aE (cU PassesOwn.never rfl (cT rfl B.range (aA (aQ aV rfl B.len fJ (aA (pv 2) aC)) aC)) (aM (i:=3) uD.nd rfl (Or.inr rfl))
   (aE (aS (i:=4) uD.nd rfl (Or.inr rfl) (aT eD (pv 2) (pv 3) (fun _ _=>rfl)))
  (aE (cX (PW.pt (iS (dJ (cL (aQ cQ rfl B.isinstance jR (aA (pv 4) (aA (eW (v:=.ty "tuple") rfl B.tuple dY rfl) aC))))) (iS (bF mC (aQ aV rfl B.len fJ (aA (pv 4) aC)) (aT bO (pv 0) aG (fun _ _=>rfl)) (bK _)) (jA (bF pT dG (cF (own:=["one"]) (fr:=[]) (frn:=[]) (aW (aI lL) ["book", "weights", "shares", "at", "row"] rfl rfl (by decide +kernel)) rfl (gC (pv 4))
    (fun _ _ _ _=>(aM (i:=0) (show (["one"]:List Str).Nodup by decide +kernel) rfl (Or.inl rfl))) (fun _ _ _ _=>cJ)
    (fun _ _ _ _=>(bD GFr OFr r2 rfl (aA (pv 0) aC)))) (by with_unfolding_all rfl))))))
   (aJ (aR dG))
   bM)
  (aE (cX (bF (sJ hr.u64) (cF (own:=["hand"]) (fr:=[3,0,4]) (frn:=["at", "book", "row"]) (aW (aI lL) ["book", "weights", "shares", "at", "row"] rfl rfl (by decide +kernel)) rfl (cT rfl B.range (aA (aT bO (pv 0) aG (fun _ _=>rfl)) aC))
    (fun _ _ _ _=>(aM (i:=0) (show (["hand", "at", "book", "row"]:List Str).Nodup by decide +kernel) rfl (Or.inl rfl))) (fun _ _ _ _=>lG (PW.pt (zY (bF mD (aT (bT (K:=K) rfl) (aT (bT (K:=K) rfl) (pv 3) (pv 0) (fun _ _=>rfl)) aG (fun _ _=>rfl)) aG (bK _)) (vU (bF (gS (K:=K) rfl) (pv 0) (aT (bT (K:=K) rfl) (aT (bT (K:=K) rfl) (pv 2) aG (fun _ _=>rfl)) (pv 1) (fun _ _=>rfl)) (by with_unfolding_all rfl))))))
    (fun _ _ _ _=>(pv 0))) (cI aC) (bK _))
   (aJ (aR dG))
   bM)
  (aJ (cX (bF (sJ hr.u64) (bD GSu OSu r2 rfl (aA (cE lF rfl B.list qC (aA (pv 4) aC)) aC)) (bG (aA (aT bO (pv 1) (pv 3) (fun _ _=>rfl)) (aA aG aC))) (bK _))
   (aJ (aR dG))
   bM))))))
  (aJ (aR dG)))),?_⟩
  obtain ⟨a,b,ys,rfl,ha,hb,hys⟩:=fM hx
  have hly:=aF hys
  rw [Qb] at hly
  obtain ⟨hn1,hn6,h12,hws⟩:=cC S.bk
  have hn4:=S.n4
  have hm4:=S.m4
  refine ⟨_,rfl,sp,_,rfl,.inl (SqL.of S.lst),_,rfl,a,_,1,.ref b,rfl,rfl,ha,rfl,b,_,rfl,.inr hb,rfl,_,rfl,?_⟩
  by_cases c:ds.length=ws.length
  ·have hzl:zs.length=ws.length:=by rw [S.len,c]
   have esh:shB n.toNat ws wt ds=(List.range ws.length).all fun i=>gX n.toNat (ws.getD i []) (wt.getD i 0) (ds.getD i .none):=by
    unfold shB
    rw [decide_eq_true c,Jr]
   rw [esh] at k
   refine mX (by rw [hzl,hly]; exact pE _) ?_
   refine ⟨_,rfl,sp,_,rfl,.inl (SqL.of S.lst),_,rfl,by omega,by omega,jK (lo:=0) (n:=(((zs.length:Nat):Int)).toNat) (fun i σ H1=>(∃ v3 v4,σ = [some (.ref a),some (.ref wp),some (.ref sp),v3,v4])/\aD H H1/\∀ j,j < i->gX n.toNat (ws.getD j []) (wt.getD j 0) (ds.getD j .none)=true) ⟨⟨_,_,rfl⟩,aD.refl _,fun j hj=>absurd hj (Yd _)⟩ ?_ ?_⟩
   ·rintro i σ H1 hi ⟨⟨v3,v4,rfl⟩,s1,hB⟩
    have hiz:i < zs.length:=by omega
    have hil:i < ws.length:=by omega
    have hzi:=Qc hiz
    generalize zs[i]=z at hzi
    obtain ⟨d,hd,hdn⟩:=iO (S.same s1).den hzi
    have hR:=S.row d (Qe hd)
    have hyi:=Qc (show i < ys.length by omega)
    generalize ys[i]'(by omega)=yv at hyi
    obtain ⟨l,hl1,hl2⟩:=aY hys hyi
    obtain ⟨al,rfl,hal⟩:=bV.mp hl2
    have hwt:=Qc (show i < wt.length by rw [S.wtk.1]; exact hil)
    generalize wt[i]'(by rw [S.wtk.1]; exact hil)=xw at hwt
    have ei:gX n.toNat (ws.getD i []) (wt.getD i 0) (ds.getD i .none)=gX n.toNat l xw d:=by rw [cZ hl1,cZ hwt,cZ hd]
    have no:gX n.toNat l xw d=false->∀ H',aD H1 H'->Q (.bl false) H':=fun e H' s'=>by
     have z:=lS (m:=ws.length) (f:=fun i=>gX n.toNat (ws.getD i []) (wt.getD i 0) (ds.getD i .none)) hil (by rw [ei]; exact e)
     rw [z] at k
     exact k _ (s1.trans s')
    dsimp only [cH]
    rw [Xv]
    refine ⟨_,rfl,_,rfl,sp,_,_,_,rfl,rfl,SqL.of (s1 _ _ S.lst),bX hzi,?_⟩
    dsimp only [cH]
    refine ⟨_,rfl,z,iA d,rfl,hdn.kd,_,rfl,?_⟩
    by_cases ct:iA d=.tup
    ·obtain ⟨es,rfl⟩:=xL ct
     obtain ⟨p,us,rfl,hp,hus⟩:=bB.mp hdn
     have hul:=aF hus
     refine mX (by rw [decide_eq_true ct]; rfl) ?_
     refine ⟨_,rfl,p,_,rfl,.inr hp,_,rfl,a,_,0,.int n,rfl,rfl,s1.seqT ha,rfl,rfl,_,rfl,?_⟩
     by_cases c2:es.length=n.toNat
     ·refine mX (by rw [hul,c2,Yp (by omega)]; exact pE _) ?_
      refine ⟨_,rfl,p,rfl,⟨_,hp⟩,iV (K:=K) (a:=p) (xs:=us) (vs:=(es.map frV).map V.bl) (fun σ=>∃ v,σ = [v]) (by omega) (by simp [hul]) hp ⟨none,rfl⟩ ?_ ?_⟩
      ·rintro j u v σ H2 hu hv ⟨v0,rfl⟩ s2 Q' k'
       obtain ⟨e,he,hed⟩:=iO hus hu
       rw [Qh,Qh,he] at hv
       cases hv
       exact ⟨_,rfl,u,e,rfl,s2.den _ _ hed,fun H3 s3=>k' _ _ ⟨_,rfl⟩ s3⟩
      ·intro H2 s2 pb hpb
       have s3:=s2.trans (aD.new (o:=.lst ((es.map frV).map V.bl)) hpb)
       refine ⟨pb,_,rfl,.inl (SqL.of aB),rfl,aDI _,_,rfl,?_⟩
       show if inV (.bl false) ((es.map frV).map V.bl)=true then _ else _
       rw [aEX,xM]
       generalize upd H2 pb (.lst ((es.map frV).map V.bl))=H3 at s3 ⊢
       cases hall:es.all frV with
       | false =>
        refine hZ (no ?_ _ s3)
        show (decide (es.length=n.toNat) && (es.all frV && _))=false
        rw [hall,Jz,Wm]
       | true =>
        refine gR ?_
        have eds:(es.map frP).map bA=es:=by
         rw [Zb]
         conv=>rhs; rw [<- Wr es]
         exact Xz fun e he=>(pK (Qy.mp hall e he)).1.symm
        have hbd:∀ y∈es.map frP,BdF y:=fun y hy=>by
         obtain ⟨e,he,rfl⟩:=Qz.mp hy
         exact (hR.fr _ rfl e he).bd (Qy.mp hall e he)
        have hpl:(es.map frP).length=us.length:=by rw [Qb,hul]
        have esr:gX n.toNat l xw (.tuple es)=(!bad l (es.map frP) && decide (eT (es.map frP)=(xw,1))):=by
         show (decide (es.length=n.toNat) && (es.all frV && _))=_
         rw [hall,decide_eq_true c2,Jr,Jr]
        rw [esr] at no ei
        rw [<- eds] at hus
        generalize es.map frP=ps at hus hbd hpl no ei
        have s13:=s1.trans s3
        refine ⟨_,rfl,a,_,0,.int n,rfl,rfl,s13.seqT ha,rfl,n,rfl,by omega,by omega,eY (lo:=0) (n:=n.toNat) (fun σ=>∃ v,σ = [v,some (.int (i:Int)),some (.ref a),some (.ref p)]) (fun j as H4=>H4=H3/\as=(((List.range ps.length).take j).filter (gL l ps)).map fun (h:Nat)=>V.int (h:Int)) (cA (by omega)) ⟨none,rfl⟩ ⟨rfl,rfl⟩ (fun j as H4 ⟨_,e⟩=>by rw [e,Qb]; exact Qu (Jf _ _) (by rw [Ja]; exact Jv _ _)) ?_ ?_⟩
        ·rintro j as σ H4 hj ⟨v,rfl⟩ ⟨rfl,rfl⟩ hz
         have hu:=Qc (show j < us.length by omega)
         generalize us[j]'(by omega)=u at hu
         obtain ⟨y,hy,hyd⟩:=aY hus hu
         obtain ⟨pp,rfl,hpp⟩:=bE.mp hyd
         have ey:gL l ps j=(decide (0 < y.1) && !inS l (j:Int)):=by unfold gL; rw [cZ hy]
         rw [bH (Xc (show j < ps.length by omega)),Xm,Qr,Qw,ey]
         dsimp only [cH]
         rw [Xv]
         refine ⟨_,rfl,_,rfl,p,_,_,_,rfl,rfl,s3.seqT hp,bX hu,pp,_,0,_,rfl,rfl,s3.seqT hpp,rfl,_,_,rfl,rfl,_,rfl,?_⟩
         refine gD (fun c=>?_) (fun c=>?_)
         ·rw [show decide (0 < y.1)=true from c,Jr]
          refine ⟨_,rfl,_,rfl,a,_,1,.ref b,rfl,rfl,s13.seqT ha,rfl,_,rfl,b,_,_,_,rfl,rfl,s13.seqT hb,bX hyi,al,_,rfl,.inr (s13.seqT hal),rfl,jL _,_,rfl,?_⟩
          show if (!inV (.int (j:Int)) (l.map V.int))=true then _ else _
          rw [jV]
          cases inS l (j:Int) with
          | true=>exact gR ⟨⟨_,rfl⟩,rfl,(Xe _).symm⟩
          | false=>exact hZ ⟨_,rfl,hz,⟨_,rfl⟩,rfl,rfl⟩
         ·rw [show decide (0 < y.1)=false from Jx.mpr c,Jz]
          exact ⟨⟨_,rfl⟩,rfl,(Xe _).symm⟩
        ·rintro as H4 ⟨rfl,rfl⟩ pl hpl2
         rw [Jt (by rw [Xk]; omega)]
         generalize hF:(List.range ps.length).filter (gL l ps)=fl
         refine ⟨cA (Jj _),fun pe hpe=>?_⟩
         have s5:=(aD.new (o:=.lst (fl.map fun (h:Nat)=>V.int (h:Int))) hpl2).trans (aD.new (o:=.lst []) hpe)
         refine ⟨.list ((fl.map fun (h:Nat)=>(h:Int)).map .int),.list [],eF.mpr ⟨pl,fl.map fun (h:Nat)=>V.int (h:Int),rfl,(aD.new hpe).seqL (SqL.of aB),by rw [show (fl.map fun (h:Nat)=>V.int (h:Int))=(fl.map fun (h:Nat)=>(h:Int)).map V.int by rw [Zb]; rfl]; exact eU.mpr rfl⟩,eF.mpr ⟨pe,[],rfl,SqL.of aB,aL.mpr rfl⟩,gH _,gH [],hV _,hV [],_,rfl,?_⟩
         rw [zW]
         have s15:=s13.trans s5
         have s35:=s3.trans s5
         generalize upd (upd H4 pl (.lst (fl.map fun (h:Nat)=>V.int (h:Int)))) pe (.lst [])=H5 at s5 s15 s35 ⊢
         have efl:bad l ps=!fl.isEmpty:=by
          rw [<- hF]
          unfold bad
          rw [Xf,Jq,Zd,Zv]
          constructor
          ·rintro ⟨x,hx,e⟩ z
           exact (Ye.mp z x hx) e
          ·intro z
           obtain ⟨x,hx⟩:=List.exists_mem_of_ne_nil _ z
           exact ⟨x,(Jc.mp hx).1,(Jc.mp hx).2⟩
         cases hfl:fl.isEmpty with
         | false =>
          rw [show (((fl.map fun (h:Nat)=>(h:Int)).map PyData.int).isEmpty)=false by cases fl <;> simp_all]
          refine hZ (no ?_ _ s35)
          rw [efl,hfl]; rfl
         | true =>
          rw [show (((fl.map fun (h:Nat)=>(h:Int)).map PyData.int).isEmpty)=true by cases fl <;> simp_all]
          refine gR ?_
          rw [efl,hfl] at no ei
          refine ⟨_,rfl,p,us,rfl,.inr (s35.seqT hp),fun q hq=>?_⟩
          have s6:=aD.new (o:=.lst us) hq
          refine ⟨q,us,ps,rfl,SqL.of aB,(s35.trans s6).denAll _ _ hus,pN hbd (by omega),fun pt H7 s7 hpt=>?_⟩
          have s17:=s15.trans (s6.trans s7)
          refine ⟨_,rfl,_,rfl,wp,_,_,_,rfl,rfl,s17.seqT hwp,bX (by rw [Qh,hwt]; rfl),sz2 _ _,fun pw hpw=>?_⟩
          have s8:=aD.new (o:=.tup [.int xw,.int 1]) hpw
          refine ⟨bA (eT ps),bA (xw,1),bE.mpr ⟨pt,rfl,s8.seqT hpt⟩,bE.mpr ⟨pw,rfl,SqT.of aB⟩,kB _,kB _,kC _,kC _,_,rfl,?_⟩
          rw [zV]
          have s38:=s35.trans (s6.trans (s7.trans s8))
          cases hq2:decide (eT ps=(xw,1)) with
          | false =>
           rw [hq2] at no
           exact hZ (no rfl _ s38)
          | true =>
           rw [hq2] at ei
           refine gR ⟨⟨_,_,rfl⟩,s17.trans s8,fun j hj=>?_⟩
           by_cases hji:j=i
           ·rw [hji,ei]; rfl
           ·exact hB j (by omega)
     ·have e:gX n.toNat l xw (.tuple es)=false:=by
       show (decide (es.length=n.toNat) && _)=false
       rw [decide_eq_false c2,Jz]
      refine lX ?_ (no e _ (aD.refl _))
      rw [hul]
      simp
      omega
    ·have e:gX n.toNat l xw d=false:=by
      cases d <;> first | rfl | exact absurd rfl ct
     exact lX (by rw [decide_eq_false ct]; rfl) (no e _ (aD.refl _))
   ·rintro σ H1 ⟨⟨v3,v4,rfl⟩,s1,hB⟩
    rw [kG (fun i hi=>hB i (by omega))] at k
    exact k _ s1
  ·have e:shB n.toNat ws wt ds=false:=by
    unfold shB
    rw [decide_eq_false c,Jz]
   rw [e] at k
   refine lX ?_ (k _ (aD.refl _))
   rw [S.len,hly]
   simp
   omega
def aAA (K:PySem.W.Frag):Sp:=fun vs H Q _=>∃ (x:V) (sp:Addr) (zs:List V) (n:Int) (ws:List (List Int)) (wt:List Int) (ds:List PyData),vs = [x,.ref sp]/\Den K H (eM n ws) x/\Itm K H sp zs n ws wt ds/\shB n.toNat ws wt ds=true/\∀ p as H',aD H H'->H' p=some (.lst as)->aN K H' ((pO n.toNat ds).map bA) as->Q (.ref p) H'
theorem aEY:FnScope ["book", "shares"] ["book", "shares"] (aI nZ):=⟨rfl,rfl,rfl,by decide +kernel,rfl,by decide +kernel,by decide +kernel⟩
theorem aDK (G:Fn K mg "_law_aof_shares" nZ ["book", "shares"] f fd) (B:Bl mg) (GSu:Fn K mg "_law_asum" vI ["some"] fU dU) (OSu:FnOk P w K mg base CX0 2 fU dU ["some"] (tS K)):FnOk P w K mg base CX0 3 f fd ["book", "shares"] (aAA K):=by
 refine G.fn.ok aEY (fun vs H Q E h=>?_) (fun cdv A outer s H vs Q E hr h=>?_)
 ·obtain ⟨x,sp,zs,n,ws,wt,ds,rfl,_⟩:=h
  rfl
 ·obtain ⟨x,sp,zs,n,ws,wt,ds,rfl,hx,S,hs,k⟩:=h
  have r2:Room 2 _:=hr
  refine ⟨_,(aJ (aR (sN (z0 := "hand") (own:=["hand"]) (fr:=[1]) (frn:=["shares"]) (lI (aI nZ) ["book", "shares"] rfl rfl (fun _ _=>rfl) (fun _=>rfl) (by decide +kernel)) rfl (cT rfl B.range (aA (aT bO (pv 0) aG (fun _ _=>rfl)) aC))
    (fun _ _ _ _=>(aM (i:=0) (show (["hand", "shares"]:List Str).Nodup by decide +kernel) rfl (Or.inr rfl))) (fun _ _ _ _=>cJ)
    (fun _ _ _ _=>(bD GSu OSu r2 rfl (aA (cF (own:=["row"]) (fr:=[0]) (frn:=["hand"]) (aW (aCO aEW (aI nZ)) ["hand", "shares"] rfl rfl (by decide +kernel)) rfl (yK (K:=K) rfl (pv 1))
    (fun _ _ _ _=>(aM (i:=0) (show (["row", "hand"]:List Str).Nodup by decide +kernel) rfl (Or.inl rfl))) (fun _ _ _ _=>cJ)
    (fun _ _ _ _=>(aT (bT (K:=K) rfl) (pv 0) (pv 1) (fun _ _=>rfl)))) aC)))))),?_⟩
  obtain ⟨a,b,ys,rfl,ha,hb,hys⟩:=fM hx
  obtain ⟨hn1,hn6,h12,hws⟩:=cC S.bk
  have hn4:=S.n4
  have hm4:=S.m4
  have hdl:=(pP hs).1
  have hzl:zs.length=ws.length:=by rw [S.len,hdl]
  refine ⟨_,rfl,a,_,0,.int n,rfl,rfl,ha,rfl,n,rfl,by omega,by omega,eY (lo:=0) (n:=n.toNat) (fun σ=>∃ v,σ = [v,some (.ref sp)]) (fun i as H2=>aD H H2/\aN K H2 ((((List.range n.toNat).take i).map fun h=>eT (aAy ds h)).map bA) as) (cA (by omega)) ⟨none,rfl⟩ ⟨aD.refl _,aL.mpr rfl⟩ ?_ ?_ ?_⟩
  ·rintro i as H2 ⟨_,d2⟩
   rw [aF d2,Qb,Qb,Ja]
   exact Jv _ _
  ·rintro i as σ H2 hi ⟨v,rfl⟩ ⟨s2,d2⟩ hz
   have S2:=S.same s2
   refine eL ?_
   refine ⟨_,rfl,sp,rfl,⟨_,SqL.of S2.lst⟩,gN (K:=K) (a:=sp) (xs:=zs) (fun σ=>∃ v,σ = [v,some (.int (0+(i:Int)))]) (fun j cs H3=>H3=H2/\aN K H2 (((ds.take j).map fun d=>(oG d).getD i (0,1)).map bA) cs) (cA (by omega)) ⟨none,rfl⟩ ⟨rfl,aL.mpr rfl⟩ ?_ (fun j cs H3 ⟨e,_⟩=>by rw [e]; exact SqL.of S2.lst) ?_ ?_⟩
   ·rintro j cs H3 ⟨_,d3⟩
    rw [aF d3,Qb,Qb,Ja]
    exact Jv _ _
   ·rintro j cs σ y H3 hy ⟨v,rfl⟩ ⟨rfl,d3⟩ hz2
    obtain ⟨p,us,ps,d,rfl,hp,hus,hd,hrp,hpl,hul,hbd,_⟩:=S2.rowOk hs hy
    have hu:=Qc (show i < us.length by omega)
    generalize us[i]'(by omega)=u at hu
    obtain ⟨y2,hy2,hyd⟩:=aY hus hu
    refine eL ?_
    refine ⟨_,rfl,_,rfl,p,_,_,u,rfl,rfl,hp,by rw [Xv]; exact bX hu,hz2,⟨_,rfl⟩,rfl,?_⟩
    rw [bH hd,Qr,Qr]
    refine aZ d3 (aH.mpr ⟨_,_,rfl,?_,aL.mpr rfl⟩)
    show Den K H3 (bA ((oG d).getD i (0,1))) u
    rw [hrp,cZ hy2]
    exact hyd
   ·rintro cs H3 ⟨rfl,d3⟩ pl hpl
    rw [S.len,Jh] at d3
    refine ⟨pl,cs,aAy ds i,rfl,SqL.of aB,(aD.new hpl).denAll _ _ d3,S.cols hs i,fun pt H4 s4 hpt=>?_⟩
    refine ⟨hz,⟨_,rfl⟩,s2.trans ((aD.new hpl).trans s4),?_⟩
    rw [bH (Xc hi),Qr,Qr]
    exact aZ (((aD.new hpl).trans s4).denAll _ _ d2) (aH.mpr ⟨_,_,rfl,bE.mpr ⟨pt,rfl,hpt⟩,aL.mpr rfl⟩)
  ·rintro as H2 ⟨s2,d2⟩ pl hpl
   rw [Jt (by rw [Xk]; exact Qg _)] at d2
   exact k pl as _ (s2.trans (aD.new hpl)) aB ((aD.new hpl).denAll _ _ d2)
theorem kX:FnScope ["book", "weights", "shares", "heaps", "able", "row", "hand", "lesser"] ["book", "weights", "shares"] (aI oX):=⟨rfl,rfl,rfl,by decide +kernel,rfl,by decide +kernel,by decide +kernel⟩
theorem aCl {fO:Addr} {dO:FuncData} (G:Fn K mg "_law_aare_level" oX ["book", "weights", "shares"] f fd) (B:Bl mg) (GLs:Fn K mg "_law_aare_shares" lL ["book", "weights", "shares"] fA dA) (OLs:FnOk P w K mg base CX0 3 fA dA ["book", "weights", "shares"] (iI K shB)) (GOs:Fn K mg "_law_aof_shares" nZ ["book", "shares"] fO dO) (OOs:FnOk P w K mg base CX0 3 fO dO ["book", "shares"] (aAA K)) (GNm:Fn K mg "_law_ano_more" oW ["one", "other"] fN dN) (ONm:FnOk P w K mg base CX0 1 fN dN ["one", "other"] (tT K)):FnOk P w K mg base CX0 4 f fd ["book", "weights", "shares"] (iI K lvB):=by
 refine G.fn.ok kX (fun vs H Q E h=>?_) (fun cdv A outer s H vs Q E hr h=>?_)
 ·obtain ⟨x,wp,sp,zs,n,ws,wt,ds,rfl,_⟩:=h
  rfl
 ·obtain ⟨x,wp,sp,zs,n,ws,wt,ds,rfl,hx,hwp,S,k⟩:=h
  have r3:Room 3 _:=hr
  have r1:Room 1 _:=hr.mono (by decide)
  refine ⟨_,(aE (cX (dJ (cL (bD GLs OLs r3 rfl (aA (pv 0) (aA (pv 1) (aA (pv 2) aC))))))
   (aJ (aR dG))
   bM)
  (aE (aS (i:=3) kX.nd rfl (Or.inr rfl) (bD GOs OOs r3 rfl (aA (pv 0) (aA (pv 2) aC))))
  (aE (cU PassesOwn.never rfl (aCH .t .l rfl B.zip (aA (aT bO (pv 0) aG (fun _ _=>rfl)) (aA (pv 2) aC))) (kE rfl (aX (aM (i:=4) kX.nd rfl (Or.inl rfl)) (aX (aM (i:=5) kX.nd rfl (Or.inl rfl)) dQ)))
   (aJ (cU PassesOwn.never rfl (gC (pv 4)) (aM (i:=6) kX.nd rfl (Or.inr rfl))
   (aE (eX (i:=7) (own:=["other"]) (fr:=[6,3]) (frn:=["hand", "heaps"]) (aW (aI oX) ["book", "weights", "shares", "heaps", "able", "row", "hand", "lesser"] rfl rfl (by decide +kernel)) rfl kX.nd rfl rfl rfl (gC (pv 4))
    (fun _ _ _ _=>(aM (i:=0) (show (["other", "hand", "heaps"]:List Str).Nodup by decide +kernel) rfl (Or.inl rfl))) (fun _ _ _ _=>lG (dJ (cL (bD GNm ONm r1 rfl (aA (aT (mK (K:=K) rfl) (pv 2) (pv 1) (fun _ _=>rfl)) (aA (aT (mK (K:=K) rfl) (pv 2) (pv 0) (fun _ _=>rfl)) aC))))))
    (fun _ _ _ _=>(pv 0)))
  (aJ (cX (PW.pt (zY (bF mD (aT bO (aT bO (pv 5) (pv 6) (fun _ _=>rfl)) aG (fun _ _=>rfl)) aG (bK _)) (vU (bF (sJ hr.u64) (pv 7) (cI aC) (bK _)))))
   (aJ (aR dG))
   bM))))))
  (aJ (aR dG))))),?_⟩
  obtain ⟨a,b,ys,rfl,ha,hb,hys⟩:=fM hx
  have hly:=aF hys
  rw [Qb] at hly
  obtain ⟨hn1,hn6,h12,hws⟩:=cC S.bk
  have hn4:=S.n4
  have hm4:=S.m4
  refine ⟨_,rfl,_,rfl,_,rfl,_,wp,sp,zs,n,ws,wt,ds,rfl,hx,hwp,S,fun H1 s1=>⟨_,rfl,?_⟩⟩
  have S1:=S.same s1
  cases hs:shB n.toNat ws wt ds with
  | false =>
   have e:lvB n.toNat ws wt ds=false:=by unfold lvB; rw [hs,Jz]
   rw [e] at k
   exact hZ (k _ s1)
  | true =>
  refine gR ?_
  rw [aBl hs] at k
  have hdl:=(pP hs).1
  have hzl:zs.length=ws.length:=by rw [S.len,hdl]
  obtain ⟨hll,hlo⟩:=aBj S hs
  refine ⟨_,rfl,_,rfl,_,sp,zs,n,ws,wt,ds,rfl,s1.den _ _ hx,S1,hs,fun hp as H2 s2 hhp das=>?_⟩
  dsimp only [cH]
  have s12:=s1.trans s2
  have S2:=S.same s12
  generalize hL:pO n.toNat ds=L at hll hlo das k
  have heap:∀ {H':Hp},aD H2 H'->∀ h:Int,0<=h->h < n->∃ p,atI as h=some (.ref p)/\Fra K H' p (lsF L h).1 (lsF L h).2:=fun {H'} s' h h0 h1=>by
   obtain ⟨p,e1,e2,e3⟩:=aDw (s'.denAll _ _ das) h0 (by rw [hll]; omega)
   exact ⟨p,e1,oE e2 (hlo _ e3)⟩
  refine ⟨_,rfl,a,_,1,.ref b,rfl,rfl,s12.seqT ha,rfl,_,rfl,b,sp,_,_,rfl,s12.seqT hb,SqL.of S2.lst,aAU (K:=K) (k1:=.t) (k2:=.l) (a:=b) (b:=sp) (xs:=ys) (ys:=zs) (fun i σ H4=>(∃ v4 v5 v6 v7,σ = [some (.ref a),some (.ref wp),some (.ref sp),some (.ref hp),v4,v5,v6,v7])/\aD H2 H4/\∀ j,j < i->bad (bR (lsF L) (ws.getD j [])) (oG (ds.getD j .none))=false) (by rw [hzl,hly]) ⟨⟨_,_,_,_,rfl⟩,aD.refl _,fun j hj=>absurd hj (Yd _)⟩ (fun i σ H4 _ ⟨_,s4,_⟩=>⟨(s12.trans s4).seqT hb,SqL.of (s4 _ _ S2.lst)⟩) ?_ ?_⟩
  ·rintro i x1 x2 q σ H4 h1 h2 ⟨⟨v4,v5,v6,v7,rfl⟩,s4,hB⟩ hq
   obtain ⟨l,hl1,hl2⟩:=aY hys h1
   obtain ⟨al,rfl,hal⟩:=bV.mp hl2
   obtain ⟨p,us,ps,d,rfl,hp2,hus,hd,hrp,hpl2,hul,hbd,hbad⟩:=S2.rowOk hs h2
   rw [cZ hl1] at hbad
   have hil:i < ws.length:=(Qd.mp hl1).1
   obtain ⟨c1,c2,c3⟩:=hJ (hws l (Qe hl1))
   have hl6:=hU (by omega) c2 c3
   have ebi:bad (bR (lsF L) (ws.getD i [])) (oG (ds.getD i .none))=lvA (lsF L) l ps:=by
    rw [cZ hl1,cZ hd,hrp]
    exact (aGg hbad fun h hh=>by have:=c2 h hh; omega).symm
   have no:lvA (lsF L) l ps=true->∀ H',aD H2 H'->Q (.bl false) H':=fun e H' s'=>by
    have z:=lS (m:=ws.length) (f:=fun i=>!bad (bR (lsF L) (ws.getD i [])) (oG (ds.getD i .none))) hil (by rw [ebi,e]; rfl)
    rw [z] at k
    exact k _ (s12.trans s')
   have sq:=s4.trans (aD.new (o:=.tup [.ref al,.ref p]) hq)
   have eq:upd H4 q (.tup [.ref al,.ref p]) q=some (.tup [.ref al,.ref p]):=aB
   generalize upd H4 q (.tup [.ref al,.ref p])=H5 at sq eq ⊢
   have s15:=s12.trans sq
   refine ⟨q,_,rfl,SqT.of eq,rfl,_,_,rfl,_,_,rfl,rfl,?_⟩
   refine ⟨_,rfl,al,rfl,⟨_,s15.seqT hal⟩,oJ (K:=K) (a:=al) (xs:=l.map V.int) (fun j σ H6=>(∃ v6 v7,σ = [some (.ref a),some (.ref wp),some (.ref sp),some (.ref hp),some (.ref al),some (.ref p),v6,v7])/\aD H5 H6/\((l.take j).any fun h=>decide (0 < (ps.getD h.toNat (0,1)).1) && !(l.filter fun o=>!decide ((lsF L h).1*(lsF L o).2<=(lsF L o).1*(lsF L h).2)).isEmpty)=false) ⟨⟨_,_,rfl⟩,aD.refl _,rfl⟩ (fun j σ H6 _ ⟨_,s6,_⟩=>(s15.trans s6).seqT hal) ?_ ?_⟩
   ·rintro j hv σ H6 hhv ⟨⟨v6,v7,rfl⟩,s6,hC⟩
    obtain ⟨h,hh,rfl⟩:=iH hhv
    obtain ⟨h0,h1⟩:=c2 h (Qe hh)
    have s26:=sq.trans s6
    have s16:=s12.trans s26
    refine ⟨_,rfl,al,rfl,⟨_,s16.seqT hal⟩,mH (K:=K) (a:=al) (xs:=l.map V.int) (fun σ=>∃ v,σ = [v,some (.int h),some (.ref hp)]) (fun m cs H7=>H7=H6/\cs=((l.take m).filter fun o=>!decide ((lsF L h).1*(lsF L o).2<=(lsF L o).1*(lsF L h).2)).map V.int) (cA (by rw [Qb]; omega)) ⟨none,rfl⟩ ⟨rfl,rfl⟩ ?_ (fun m cs H7 ⟨e,_⟩=>by rw [e]; exact s16.seqT hal) ?_ ?_⟩
    ·rintro m cs H7 ⟨_,rfl⟩
     rw [Qb]
     exact Qu (Jf _ _) (by rw [Ja]; exact Jv _ _)
    ·rintro m cs σ y H7 hy ⟨v,rfl⟩ ⟨rfl,rfl⟩ hz
     obtain ⟨o,ho,rfl⟩:=iH hy
     obtain ⟨o0,o1⟩:=c2 o (Qe ho)
     obtain ⟨ph,ah,fh⟩:=heap s26 h h0 h1
     obtain ⟨po,ao,fo⟩:=heap s26 o o0 o1
     refine ⟨_,rfl,_,rfl,hp,_,h,_,rfl,rfl,SqL.of (s26 _ _ hhp),ah,_,rfl,_,rfl,hp,_,o,_,rfl,rfl,SqL.of (s26 _ _ hhp),ao,ph,po,_,_,_,_,rfl,fh,fo,_,rfl,?_⟩
     rw [bH ho,Xm,Qr]
     cases hc:decide ((lsF L h).1*(lsF L o).2<=(lsF L o).1*(lsF L h).2) with
     | false =>
      refine hZ ⟨_,rfl,hz,⟨_,rfl⟩,rfl,?_⟩
      rw [Qw,hc]; rfl
     | true =>
      refine gR ⟨⟨_,rfl⟩,rfl,?_⟩
      rw [Qw,hc]
      show _=_++[]
      rw [Xe]
    ·rintro cs H7 ⟨rfl,rfl⟩ pl hpl
     rw [Qb,Jh]
     have s7:=aD.new (o:=.lst ((l.filter fun o=>!decide ((lsF L h).1*(lsF L o).2<=(lsF L o).1*(lsF L h).2)).map V.int)) hpl
     have e7:upd H7 pl (.lst ((l.filter fun o=>!decide ((lsF L h).1*(lsF L o).2<=(lsF L o).1*(lsF L h).2)).map V.int)) pl=_:=aB
     have hu:=Qc (show h.toNat < us.length by omega)
     generalize us[h.toNat]'(by omega)=u at hu
     obtain ⟨y,hy,hyd⟩:=aY hus hu
     obtain ⟨pp,rfl,hpp⟩:=bE.mp hyd
     rw [bH hh,List.any_append,Zq,List.any_nil,Wv,cZ hy,hC,Wa]
     have ny:(decide (0 < y.1) && !(l.filter fun o=>!decide ((lsF L h).1*(lsF L o).2<=(lsF L o).1*(lsF L h).2)).isEmpty)=true->lvA (lsF L) l ps=true:=fun e=>Jq.mpr ⟨h,Qe hh,by rw [cZ hy]; exact e⟩
     generalize hles:(l.filter fun o=>!decide ((lsF L h).1*(lsF L o).2<=(lsF L o).1*(lsF L h).2))=les at s7 e7 ny ⊢
     generalize upd H7 pl (.lst (les.map V.int))=H8 at s7 e7 ⊢
     have s28:=s26.trans s7
     have hcast:((h.toNat:Nat):Int)=h:=by omega
     have hat:=bX hu
     rw [hcast] at hat
     refine ⟨_,rfl,_,rfl,p,_,h,_,rfl,rfl,s28.seqT hp2,hat,pp,_,0,_,rfl,rfl,s28.seqT hpp,rfl,_,_,rfl,rfl,_,rfl,?_⟩
     refine gD (fun c=>?_) (fun c=>?_)
     ·rw [show decide (0 < y.1)=true from c,Jr] at ny ⊢
      refine ⟨_,rfl,cA (Jj _),fun pe hpe=>?_⟩
      refine ⟨.list (les.map .int),.list [],eF.mpr ⟨pl,_,rfl,(aD.new hpe).seqL (SqL.of e7),eU.mpr rfl⟩,eF.mpr ⟨pe,[],rfl,SqL.of aB,aL.mpr rfl⟩,gH _,gH [],hV _,hV [],_,rfl,?_⟩
      rw [zW]
      have em:(les.map PyData.int).isEmpty=les.isEmpty:=by cases les <;> rfl
      rw [em]
      cases hE:les.isEmpty with
      | true=>exact gR ⟨⟨_,_,rfl⟩,s6.trans (s7.trans (aD.new hpe)),rfl⟩
      | false=>exact hZ (no (ny (by rw [hE]; rfl)) _ (s28.trans (aD.new hpe)))
     ·rw [show decide (0 < y.1)=false from Jx.mpr c,Jz]
      exact ⟨⟨_,_,rfl⟩,s6.trans s7,rfl⟩
   ·rintro σ H6 ⟨⟨v6,v7,rfl⟩,s6,hC⟩
    rw [Qb,Jh] at hC
    refine ⟨⟨_,_,_,_,rfl⟩,sq.trans s6,fun j hj=>?_⟩
    by_cases hji:j=i
    ·rw [hji,ebi]; exact hC
    ·exact hB j (by omega)
  ·rintro σ H4 ⟨⟨v4,v5,v6,v7,rfl⟩,s4,hB⟩
   rw [kG (fun i hi=>by rw [hB i (by omega)]; rfl)] at k
   exact k _ (s12.trans s4)
end Ab
namespace L2
open PySem
theorem Vw.grow {o:HO} (h:H p=none):aD (Vw S H) (Vw (p::S) (upd H p o)):=fun b u e=>by
 have hb:b∉S:=fun z=>by unfold Vw at e; rw [if_pos z] at e; cases e
 rw [Vw.out hb] at e
 have n:b≠p:=fun z=>by rw [z,h] at e; cases e
 rw [Vw.out (fun z=>by rcases Qj.mp z with z | z; exact n z; exact hb z),aK n]
 exact e
theorem Vw.nil:aD H (Vw [] H):=fun b o h=>by rw [Vw.out (by simp)]; exact h
theorem aBm {st:Expr} {pos:Pos} (hK:X.K=K) (he:PE X e te) (hst:PE X st ts):PE X (.Subscript e (.Slice none none (some st) p2) pos) (aFQ K te ts):=by subst hK; exact aFR he hst
theorem oH:∀ {ds:List PyData} {zs:List V},aN K H ds zs->aN K H ds.reverse zs.reverse
 | [],zs,h=>by rw [aL.mp h]; exact aL.mpr rfl
 | d::ds,zs,h=>by
  obtain ⟨v,vs,rfl,h1,h2⟩:=aH.mp h
  rw [Zr,Zr]
  exact aZ (oH h2) (aH.mpr ⟨v,[],rfl,h1,aL.mpr rfl⟩)
theorem lT {d:PyData} (hd:Den K H d v):∀ {ds:List PyData} {zs:List V} (i:Nat),aN K H ds zs->aN K H (ds.set i d) (zs.set i v)
 | [],zs,i,h=>by rw [aL.mp h]; exact aL.mpr rfl
 | e::ds,zs,0,h=>by
  obtain ⟨u,vs,rfl,h1,h2⟩:=aH.mp h
  exact aH.mpr ⟨v,vs,rfl,hd,h2⟩
 | e::ds,zs,i+1,h=>by
  obtain ⟨u,vs,rfl,h1,h2⟩:=aH.mp h
  exact aH.mpr ⟨u,vs.set i v,rfl,h1,lT hd i h2⟩
theorem pR {o:HO} (s:aD H H') (hp:H p=none):aD H (upd H' p o):=fun b u h=>by
 rw [aK (fun e=>by rw [e,hp] at h; cases h)]
 exact s _ _ h
section
variable {σ:St} {t:TA} {tl th:TO} {d:PyData} {es:List PyData}
def ED (K:PySem.W.Frag) (S:List Addr) (d:PyData):Hp->V->Prop:=fun H v=>Den K (Vw S H) d v
instance:Mo (ED K S d):=⟨fun e h=>(Vw.same e).den _ _ h⟩
def EDs (H0:Hp) (K:PySem.W.Frag) (S:List Addr) (ds:List PyData) (t:TA) (σ:St):Prop:=∀ H,aD H0 H->Fx S H->∀ Q:List V->Hp->Prop,(∀ vs H',aD H H'->aN K (Vw S H') ds vs->Q vs H')->t σ H Q
theorem cK:EDs H0 K S [] rF σ:=fun H _ _ Q k=>k [] H (aD.refl H) (aL.mpr rfl)
theorem aP (h:Al H0 S te σ (ED K S d)) (r:EDs H0 K S ds tr σ):EDs H0 K S (d::ds) (nP te tr) σ:=fun H s f Q k=>h H s f _ fun v H1 s1 d1=>r H1 (s.trans s1) (f.same s1) _ fun vs H2 s2 d2=>k _ _ (s1.trans s2) (aH.mpr ⟨v,vs,rfl,(Vw.same s2).den _ _ d1,d2⟩)
theorem iJ {i:Int}:Al H0 S (tC (.int i)) σ (ED K S (.int i)):=aCL (R:=ED K S (.int i)) (bP.mpr rfl)
theorem aAB:Al H0 S (tC .non) σ (ED K S .none):=aCL (R:=ED K S .none) (sH.mpr rfl)
theorem aBn {b:Bool}:Al H0 S (tC (.bl b)) σ (ED K S (.bool b)):=aCL (R:=ED K S (.bool b)) (jP.mpr rfl)
theorem aGh {b:Str}:Al H0 S (tC (.str b)) σ (ED K S (.str b)):=aCL (R:=ED K S (.str b)) (wA.mpr rfl)
theorem bZ {i:Nat} {a:Int} (h:σ[i]?=some (some (.int a))):Al H0 S (uH i) σ (ED K S (.int a)):=eA (R:=ED K S (.int a)) h (bP.mpr rfl)
theorem aBo {g:Int->Int->Int} {a b:Int} (ha:Al H0 S ta σ (ED K S (.int a))) (hb:Al H0 S tb σ (ED K S (.int b))):Al H0 S (tOp (rI0 fun i j=>.int (g i j)) ta tb) σ (ED K S (.int (g a b))):=fun H s f Q k=>ha H s f _ fun v H1 s1 d1=>hb H1 (s.trans s1) (f.same s1) _ fun u H2 s2 d2=>⟨a,b,bP.mp d1,bP.mp d2,k _ H2 (s1.trans s2) (bP.mpr rfl)⟩
theorem aAC {g:Int->Int->Int} {C:Int->Int->Prop} {a b:Int} (ha:Al H0 S ta σ (ED K S (.int a))) (hb:Al H0 S tb σ (ED K S (.int b))) (hc:C a b):Al H0 S (tOp (rI C fun i j=>.int (g i j)) ta tb) σ (ED K S (.int (g a b))):=fun H s f Q k=>ha H s f _ fun v H1 s1 d1=>hb H1 (s.trans s1) (f.same s1) _ fun u H2 s2 d2=>⟨a,b,bP.mp d1,bP.mp d2,hc,k _ H2 (s1.trans s2) (bP.mpr rfl)⟩
theorem aDL {g:Int->Int} {a:Int} (ha:Al H0 S ta σ (ED K S (.int a))):Al H0 S (tUn (rU fun i=>.int (g i)) ta) σ (ED K S (.int (g a))):=fun H s f Q k=>ha H s f _ fun v H1 s1 d1=>⟨a,bP.mp d1,k _ H1 s1 (bP.mpr rfl)⟩
theorem gA (h:EDs H0 K S ds t σ) (hn:ds.length<=1000:=by simp):Al H0 S (aD2 t) σ (ED K S (.tuple ds)):=fun H s f Q k=>h H s f _ fun vs H1 s1 d=>⟨by rw [aF d,sizeLine_eq]; omega,fun p hp=>k _ _ (s1.trans (aD.new hp)) (bB.mpr ⟨p,vs,rfl,SqT.of (Vw.at (f.same s1) hp),(Vw.same (aD.new hp)).denAll _ _ d⟩)⟩
def EL (K:PySem.W.Frag) (S:List Addr) (ds:List PyData):Hp->V->Prop:=fun H v=>∃ p vs,v=.ref p/\Vw S H p=some (.lst vs)/\aN K (Vw S H) ds vs
instance:Mo (EL K S ds):=⟨fun e ⟨p,vs,a,b,c⟩=>⟨p,vs,a,Vw.same e _ _ b,(Vw.same e).denAll _ _ c⟩⟩
theorem EL.ed (h:EL K S ds H v):ED K S (.list ds) H v:=let ⟨p,vs,a,b,c⟩:=h; eF.mpr ⟨p,vs,a,SqL.of b,c⟩
theorem xO (h:EDs H0 K S ds t σ) (hn:ds.length<=1000:=by simp):Al H0 S (aAc t) σ (EL K S ds):=fun H s f Q k=>h H s f _ fun vs H1 s1 d=>⟨by rw [aF d,sizeLine_eq]; omega,fun p hp=>k _ _ (s1.trans (aD.new hp)) ⟨p,vs,rfl,Vw.at (f.same s1) hp,(Vw.same (aD.new hp)).denAll _ _ d⟩⟩
theorem aGi (h:EDs H0 K S ds t σ) (hn:ds.length<=1000:=by simp):Al H0 S (aAc t) σ (ED K S (.list ds)):=(xO h hn).mono fun _ _ r=>r.ed
theorem aDM {i:Nat} (h:σ[i]?=some (some v)) (r:EL K S ds H0 v):Al H0 S (uH i) σ (EL K S ds):=eA (R:=EL K S ds) h r
theorem aDN (ha:Al H0 S ta σ (EL K S ds)) (hb:Al H0 S tb σ (EL K S es)) (hn:ds.length+es.length<=1000:=by simp):Al H0 S (tOp aFM ta tb) σ (EL K S (ds++es)):=fun H s f Q k=>ha H s f _ fun v H1 s1 d1=>hb H1 (s.trans s1) (f.same s1) _ fun u H2 s2 d2=>by
 obtain ⟨p,xs,rfl,g,hxs⟩:=d1
 obtain ⟨q,ys,rfl,g',hys⟩:=d2
 have gp:=s2 _ _ (Vw.sub _ _ g)
 have hxs2:=(Vw.same s2).denAll _ _ hxs
 exact ⟨p,q,xs,ys,rfl,rfl,gp,Vw.sub _ _ g',by rw [sizeLine_eq,aF hxs,aF hys]; omega,fun r hr=>k _ _ (s1.trans (s2.trans (aD.new hr))) ⟨r,_,rfl,Vw.at ((f.same s1).same s2) hr,aZ ((Vw.same (aD.new hr)).denAll _ _ hxs2) ((Vw.same (aD.new hr)).denAll _ _ hys)⟩⟩
end
end L2
namespace Ab
open PySem L2
theorem kY (f:Fx S H):∀ {ps:List (Int×Int)} {us:List V},aN K H (ps.map bA) us->aN K (Vw S H) (ps.map bA) us
 | [],us,h=>h
 | x::ps,us,h=>by
  obtain ⟨v,vs,rfl,h1,h2⟩:=aH.mp h
  obtain ⟨p,rfl,hp⟩:=bE.mp h1
  exact aH.mpr ⟨_,_,rfl,bE.mpr ⟨p,rfl,f.seqT hp⟩,kY f h2⟩
theorem Vw.less:aD (Vw (p::S) H) (Vw S H):=fun b o h=>by
 have n:b∉p::S:=fun z=>by unfold Vw at h; rw [if_pos z] at h; cases h
 rw [Vw.out n] at h
 rw [Vw.out fun z=>n (Qs _ z)]
 exact h
theorem But.vw {t:Addr} (e:But t H H') (h:t∈S):aD (Vw S H) (Vw S H'):=Vw.keep fun b o n q=>e b o (fun z=>n (z ▸ h)) q
section
variable {σ:St} {t:TA} {tl th:TO}
def DeP (K:PySem.W.Frag) (R:PyData->Prop) (S:List Addr) (H:Hp) (z:V):Prop:=∃ d,Den K (Vw S H) d z/\R d
theorem DeP.keep {R:PyData->Prop} {S':List Addr} {z:V} (h:DeP K R S H z) (e:aD (Vw S H) (Vw S' H')):DeP K R S' H' z:=let ⟨d,h1,h2⟩:=h; ⟨d,e.den _ _ h1,h2⟩
instance {R:PyData->Prop}:Mo (DeP K R S):=⟨fun e h=>h.keep (Vw.same e)⟩
theorem ED.dep {R:PyData->Prop} {d:PyData} (h:Al H0 S te σ (ED K S d)) (r:R d):Al H0 S te σ (DeP K R S):=h.mono fun _ _ x=>⟨d,x,r⟩
def TuB (K:PySem.W.Frag) (S:List Addr) (m:Nat):Hp->V->Prop:=fun H v=>∃ p xs ds,v=.ref p/\SqT K (Vw S H) p xs/\aN K (Vw S H) ds xs/\ds.length<=m/\∀ e∈ds,FrB e
instance:Mo (TuB K S m):=⟨fun e ⟨p,xs,ds,a,b,c,d⟩=>⟨p,xs,ds,a,(Vw.same e).seqT b,(Vw.same e).denAll _ _ c,d⟩⟩
theorem TuB.row (h:TuB K S m H v):DeP K RowB S H v:=let ⟨p,xs,ds,a,b,c,d⟩:=h; ⟨.tuple ds,bB.mpr ⟨p,xs,a,b,c⟩,pM d.2⟩
theorem Tu.row (h:Al H0 S te σ (TuB K S m)):Al H0 S te σ (DeP K RowB S):=h.mono fun _ _ r=>r.row
theorem lU {i:Nat} (h:σ[i]?=some (some v)) (r:TuB K S m H0 v):Al H0 S (uH i) σ (TuB K S m):=eA (R:=TuB K S m) h r
theorem aGj:Al H0 S (aD2 rF) σ (TuB K S 0):=fun H s f Q k=>⟨by rw [sizeLine_eq]; simp,fun p hp=>k _ _ (aD.new hp) ⟨p,[],[],rfl,SqT.of (Vw.at f hp),aL.mpr rfl,Qg _,fun e he=>absurd he (by simp)⟩⟩
theorem aDO (h:Al H0 S te σ (DeP K FrB S)):Al H0 S (aD2 (nP te rF)) σ (TuB K S 1):=fun H s f Q k=>h H s f _ fun v H1 s1 ⟨d,h1,h2⟩=>⟨by rw [sizeLine_eq]; simp,fun p hp=>k _ _ (s1.trans (aD.new hp)) ⟨p,[v],[d],rfl,SqT.of (Vw.at (f.same s1) hp),aH.mpr ⟨v,[],rfl,(Vw.same (aD.new hp)).den _ _ h1,aL.mpr rfl⟩,Qg _,fun e he=>by rw [Qi.mp he]; exact h2⟩⟩
theorem uE (ha:Al H0 S ta σ (TuB K S m)) (hb:Al H0 S tb σ (TuB K S n)) (hn:m+n<=1000:=by decide):Al H0 S (tOp (aFd K) ta tb) σ (TuB K S (m+n)):=fun H s f Q k=>ha H s f _ fun v H1 s1 d1=>hb H1 (s.trans s1) (f.same s1) _ fun u H2 s2 d2=>by
 obtain ⟨p,xs,ds,rfl,g,hxs,l1,f1⟩:=d1
 obtain ⟨q,ys,es,rfl,g',hys,l2,f2⟩:=d2
 have hxs2:=(Vw.same s2).denAll _ _ hxs
 refine ⟨p,q,xs,ys,rfl,rfl,s2.seqT (Vw.sub.seqT g),Vw.sub.seqT g',by rw [sizeLine_eq,aF hxs,aF hys]; omega,fun r H3 s3 g3=>k _ _ (s1.trans (s2.trans s3)) ⟨r,_,ds++es,rfl,(((f.same s1).same s2).same s3).seqT g3,aZ ((Vw.same s3).denAll _ _ hxs2) ((Vw.same s3).denAll _ _ hys),by rw [Qt]; omega,fun e he=>?_⟩⟩
 rcases Jg.mp he with he | he
 ·exact f1 e he
 ·exact f2 e he
theorem uF (h:aN K H ds xs) (lo hi:Option Int):∃ es,aN K H es (nV xs lo hi)/\es.length<=ds.length/\∀ e∈es,e∈ds:=by
 unfold nV
 refine ⟨_,L2.qU _ (L2.qV _ h),?_,fun e he=>List.mem_of_mem_drop (Ym he)⟩
 rw [Ja,Zi]
 omega
theorem vQ (ha:Al H0 S ta σ (TuB K S m)) (hl:AlO H0 S tl σ) (hh:AlO H0 S th σ):Al H0 S (tSl (aGN K) ta tl th) σ (TuB K S m):=fun H s f Q k=>ha H s f _ fun v H1 s1 d1=>hl H1 (s.trans s1) (f.same s1) _ fun lo H2 s2=>hh H2 ((s.trans s1).trans s2) ((f.same s1).same s2) _ fun hi H3 s3=>by
 obtain ⟨p,xs,ds,rfl,g,hxs,l1,f1⟩:=d1
 have s13:=s2.trans s3
 refine ⟨p,xs,rfl,s13.seqT (Vw.sub.seqT g),fun r H4 s4 g4=>?_⟩
 obtain ⟨es,e1,e2,e3⟩:=uF ((Vw.same (s13.trans s4)).denAll _ _ hxs) lo hi
 exact k _ _ (s1.trans (s13.trans s4)) ⟨r,_,es,rfl,(((f.same s1).same s13).same s4).seqT g4,e1,by omega,fun e he=>f1 e (e3 e he)⟩
theorem aDP (h:Al H0 S te σ (TuB K S m)) (hs:Al H0 S ts σ fun _ v=>v=.int (-1)):Al H0 S (aFQ K te ts) σ (TuB K S m):=fun H s f Q k=>h H s f _ fun v H1 s1 d1=>hs H1 (s.trans s1) (f.same s1) _ fun u H2 s2 e=>by
 obtain ⟨p,xs,ds,rfl,g,hxs,l1,f1⟩:=d1
 have hxs2:=(Vw.same s2).denAll _ _ hxs
 exact ⟨e,p,xs,rfl,s2.seqT (Vw.sub.seqT g),fun r hr=>k _ _ (s1.trans (s2.trans (aD.new hr))) ⟨r,_,ds.reverse,rfl,SqT.of (Vw.at ((f.same s1).same s2) hr),oH ((Vw.same (aD.new hr)).denAll _ _ hxs2),by rw [Zh]; exact l1,fun e he=>f1 e (List.mem_reverse.mp he)⟩⟩
theorem aEZ (h:Al H0 S te σ (TuB K S m)):Al H0 S (tCB (aAT K) (nP te rF)) σ (DeP K RowB S):=fun H s f Q k=>h H s f _ fun v H1 s1 d1=>by
 obtain ⟨p,xs,ds,rfl,g,hxs,l1,f1⟩:=d1
 exact ⟨p,xs,rfl,.inr (Vw.sub.seqT g),fun r hr=>k _ _ (s1.trans (aD.new hr)) ⟨.list ds,eF.mpr ⟨r,xs,rfl,SqL.of (Vw.at (f.same s1) hr),(Vw.same (aD.new hr)).denAll _ _ hxs⟩,aEQ f1⟩⟩
def AlD (H0:Hp) (K:PySem.W.Frag) (R:PyData->Prop) (S:List Addr) (n:Nat) (t:TA) (σ:St):Prop:=∀ H,aD H0 H->Fx S H->∀ Q:List V->Hp->Prop,(∀ vs H',aD H H'->vs.length=n->(∀ v∈vs,DeP K R S H' v)->Q vs H')->t σ H Q
theorem aE0 {R:PyData->Prop}:AlD H0 K R S 0 rF σ:=fun H _ _ Q k=>k [] H (aD.refl H) rfl (fun _ h=>(Qq h).elim)
theorem kZ {R:PyData->Prop} (h:Al H0 S te σ (DeP K R S)) (r:AlD H0 K R S n tr σ):AlD H0 K R S (n+1) (nP te tr) σ:=fun H s f Q k=>h H s f _ fun v H1 s1 d1=>r H1 (s.trans s1) (f.same s1) _ fun vs H2 s2 l d2 =>
 k (v::vs) H2 (s1.trans s2) (by rw [Jn,l]) fun x hx=>by
  rcases Qj.mp hx with rfl | hx
  ·exact d1.keep (Vw.same s2)
  ·exact d2 x hx
structure LI (K:PySem.W.Frag) (R:PyData->Prop) (S0:List Addr) (H0:Hp) (fl:Addr) (N:Nat) (H:Hp):Prop where
 same:aD H0 H
 f0:Fx S0 H0
 has:∃ xs,H fl=some (.lst xs)/\xs.length<=N/\∀ z∈xs,DeP K R (fl::S0) H z
variable {R:PyData->Prop} {S0:List Addr} {fl:Addr} {N M:Nat}
theorem LI.fx (I:LI K R S0 H0 fl N H):Fx (fl::S0) H:=fun b hb=>by
 rcases Qj.mp hb with rfl | hb
 ·obtain ⟨xs,h,_⟩:=I.has; exact ⟨_,h⟩
 ·exact (I.f0.same I.same) b hb
theorem LI.next (I:LI K R S0 H0 fl N H) (s:aD H H') (h:N<=M):LI K R S0 H0 fl M H' :=
 ⟨I.same.trans s,I.f0,let ⟨xs,h1,h2,h3⟩:=I.has; ⟨xs,s _ _ h1,Qu h2 h,fun z hz=>(h3 z hz).keep (Vw.same s)⟩⟩
theorem LI.app {z:V} (hf:H0 fl=none) (I:LI K R S0 H0 fl N H) (s:aD H H1) (hz:DeP K R (fl::S0) H1 z) (hN:N<=1000) :
  ∃ xs,H1 fl=some (.lst xs)/\xs.length < sizeLine/\LI K R S0 H0 fl (N+1) (upd H1 fl (.lst (xs++[z]))):=by
 obtain ⟨xs,h1,h2,h3⟩:=I.has
 refine ⟨xs,s _ _ h1,by rw [sizeLine_eq]; omega,fun b o h=>?_,I.f0,_,aB,by rw [Qt]; show _+1<=_; omega,fun y hy=>?_⟩
 ·rw [aK (fun e=>by rw [e,hf] at h; cases h)]
  exact s _ _ (I.same _ _ h)
 ·have kp:aD (Vw (fl::S0) H1) (Vw (fl::S0) (upd H1 fl (.lst (xs++[z])))):=But.vw (t:=fl) But.at (Qn ..)
  rcases Jg.mp hy with hy | hy
  ·exact ((h3 y hy).keep (Vw.same s)).keep kp
  ·rw [Qi.mp hy]
   exact hz.keep kp
theorem aAD {q:Nat} (hf:H0 fl=none) (I:LI K R S0 H0 fl N H) (hN:N<=1000) (hq:σ[q]?=some (some (.ref fl))) (he:Al H (fl::S0) te σ (DeP K R (fl::S0))) (k:∀ H',But fl H H'->LI K R S0 H0 fl (N+1) H'->D.nx σ H'):aCr (tBM K "list" vY (uH q) (nP te rF)) D σ H:=by
 obtain ⟨xs0,h1,_⟩:=I.has
 refine ⟨_,hq,.inl ⟨rfl,_,SqL.of h1⟩,yG I.fx he fun z H1 s1 hz=>?_⟩
 obtain ⟨xs,e1,e2,I2⟩:=LI.app hf I s1 hz hN
 exact ⟨fl,xs,z,rfl,rfl,e1,e2,k _ ((But.of s1).trans But.at) I2⟩
theorem aE1 {Q:VK} {t:TA} (f:Fx S H) (h:AlD H K R S n t σ) (k:∀ p xs H1,aD H H1->H1 p=none->xs.length=n->(∀ x∈xs,DeP K R S H1 x)->Q (.ref p) (upd H1 p (.lst xs))) (hn:n<=1000:=by decide):aAc t σ H Q :=
 h H (aD.refl H) f _ fun vs H1 s1 l d=>⟨by rw [l]; exact Ze (vC hn),fun p hp=>k p vs H1 s1 hp l d⟩
theorem LI.begin (f0:Fx S0 H0) (s:aD H0 H1) (hp:H1 p=none) (hN:xs.length<=N) (h:∀ x∈xs,DeP K R S0 H1 x):LI K R S0 H0 p N (upd H1 p (.lst xs)):=⟨s.trans (aD.new hp),f0,xs,aB,hN,fun z hz=>(h z hz).keep (Vw.grow hp)⟩
end
def lY (y:Int×Int):Prop:=0<=y.1/\y.1<=100000/\1<=y.2/\y.2<=60
theorem lA {x:Int×Int} (h:0<=x.1->1<=x.2->BdF x):FrB (bA x):=⟨aAx fun d hd=>by
  simp only [Qj,Qq,or_false] at hd
  rcases hd with rfl | rfl
  ·exact jD _
  ·exact jD _,fun e=>by
  rw [zU,Jb,decide_eq_true_iff,decide_eq_true_iff] at e
  rw [aDA]
  exact h e.1 e.2⟩
theorem aE2 {a b:Int} (h:0<=a->1<=b->BdF (a,b)):FrB (.tuple [.int a,.int b]):=lA (x:=(a,b)) h
theorem kD (h:∀ d∈ds,Wb 0 d) (n:frV (.tuple ds)=false):FrB (.tuple ds):=⟨aAx h,fun e=>by rw [n] at e; cases e⟩
theorem aE3 (h:∀ d∈ds,Wb 0 d):FrB (.list ds):=⟨xJ h,fun e=>by cases e⟩
theorem aE4:FrB .none:=⟨aAv,fun e=>by cases e⟩
def uG (a b:Int):List PyData:=[.tuple [.int (a+1),.int b],.tuple [.int (a - 1),.int b],.tuple [.int a,.int (b+1)],.tuple [.int a,.int (b - 1)],.tuple [.int (7*a),.int (7*b)],.tuple [.int 0,.int 1],.tuple [.int (10^(40:Int).toNat),.int 1],.tuple [.int a,.bool true]]
def vR (a b:Int):List PyData:=[.tuple [.bool true,.int b],.tuple [.none,.int b],.tuple [.int a,.str "1"],.tuple [.int a,.int (-b)],.tuple [.int (-a),.int (-b)],.tuple [.bool false,.int b],.tuple [.int a,.bool false]]
def zX (a b:Int):List PyData:=[.list [.int a,.int b],.tuple [.int a],.none,.tuple [.int a,.int b,.int 1]]
theorem wb2 {x y:PyData} (hx:Wb 0 x) (hy:Wb 0 y):∀ d∈[x,y],Wb 0 d:=fun d hd=>by
 simp only [Qj,Qq,or_false] at hd
 rcases hd with rfl | rfl
 ·exact hx
 ·exact hy
theorem aE5 {a b:Int} (h:lY (a,b)):∀ d∈uG a b++vR a b++zX a b,FrB d:=by
 obtain ⟨h0,h1,h2,h3⟩:=h
 dsimp only at h0 h1 h2 h3
 have two:∀ {x y:Int},x<=2^135->y<=4096->FrB (.tuple [.int x,.int y]):=fun hx hy=>aE2 fun p q=>⟨p,hx,q,hy⟩
 intro d hd
 unfold uG vR zX at hd
 simp only [Jg,Qj,Qq,or_false] at hd
 rcases hd with ((rfl | rfl | rfl | rfl | rfl | rfl | rfl | rfl) | (rfl | rfl | rfl | rfl | rfl | rfl | rfl)) | (rfl | rfl | rfl | rfl)
 ·exact two (by omega) (by omega)
 ·exact two (by omega) (by omega)
 ·exact two (by omega) (by omega)
 ·exact two (by omega) (by omega)
 ·exact two (by omega) (by omega)
 ·exact two (by omega) (by omega)
 ·exact two (by decide) (by omega)
 ·exact kD (wb2 (jD _) (nJ _)) rfl
 ·exact kD (wb2 (nJ _) (jD _)) rfl
 ·exact kD (wb2 aAv (jD _)) rfl
 ·exact kD (wb2 (jD _) aEP) rfl
 ·exact two (by omega) (by omega)
 ·exact two (by omega) (by omega)
 ·exact kD (wb2 (nJ _) (jD _)) rfl
 ·exact kD (wb2 (jD _) (nJ _)) rfl
 ·exact aE3 (wb2 (jD _) (jD _))
 ·exact kD (fun d hd=>by rw [Qi.mp hd]; exact jD _) (rX (by simp))
 ·exact aE4
 ·refine kD (fun d hd=>?_) (rX (by simp))
  simp only [Qj,Qq,or_false] at hd
  rcases hd with rfl | rfl | rfl <;> exact jD _
theorem lY.bd {y:Int×Int} (h:lY y):BdF y:=by
 obtain ⟨a,b,c,d⟩:=h
 exact ⟨a,by omega,c,by omega⟩
theorem lY.fr {y:Int×Int} (h:lY y):FrB (bA y):=lA fun _ _=>h.bd
theorem aE6 {x y:Int×Int} (hx:lY x) (hy:lY y):tP [x,y,(1,1)]/\FrB (bA (eT [x,y,(1,1)])):=by
 have b1:BdF (1,1):=⟨by decide,by decide,by decide,by decide⟩
 have hb:∀ z∈[x,y,(1,1)],BdF z:=fun z hz=>by
  simp only [Qj,Qq,or_false] at hz
  rcases hz with rfl | rfl | rfl
  ·exact hx.bd
  ·exact hy.bd
  ·exact b1
 refine ⟨pN hb (by simp),lA fun _ _=>?_⟩
 have step:∀ {u v:Int×Int} {A B C D:Int},0<=u.1->u.1<=A->1<=u.2->u.2<=B->0<=v.1->v.1<=C->1<=v.2->v.2<=D->0<=(jE u v).1/\(jE u v).1<=A*D+C*B/\1<=(jE u v).2/\(jE u v).2<=B*D:=fun {u v A B C D} a1 a2 a3 a4 c1 c2 c3 c4=>by
  have pb:0 < u.2*v.2:=Wp (by omega) (by omega)
  have pa:0<=u.1*v.2+v.1*u.2:=Int.add_nonneg (Yi a1 (by omega)) (Yi c1 (by omega))
  have m1:u.1*v.2<=A*D:=Xw a2 c4 (by omega) (by omega)
  have m2:v.1*u.2<=C*B:=Xw c2 a4 (by omega) (by omega)
  have m3:u.2*v.2<=B*D:=Xw a4 c4 (by omega) (by omega)
  exact ⟨rR pa pb,Yl (rS pa pb) (Int.add_le_add m1 m2),pC _ pb,Yl (rT pb) m3⟩
 obtain ⟨x1,x2,x3,x4⟩:=hx
 obtain ⟨y1,y2,y3,y4⟩:=hy
 obtain ⟨p1,p2,p3,p4⟩:=step (u:=(0,1)) (v:=x) (A:=0) (B:=1) (by decide) (by decide) (by decide) (by decide) x1 x2 x3 x4
 obtain ⟨q1,q2,q3,q4⟩:=step p1 p2 p3 p4 y1 y2 y3 y4
 obtain ⟨r1,r2,r3,r4⟩:=step (v:=(1,1)) (C:=1) (D:=1) q1 q2 q3 q4 (by decide) (by decide) (by decide) (by decide)
 exact ⟨r1,by show (jE (jE (jE (0,1) x) y) (1,1)).1<=_; omega,r3,by show (jE (jE (jE (0,1) x) y) (1,1)).2<=_; omega⟩
theorem qO {i:Nat} {u:TS} {σ:St} (h:te σ H fun v H1=>u D (σ.set i (some v)) H1):aFu (aCt te (cH i)) u D σ H:=h
theorem qP {t u:TS} {σ:St} (h:t { D with nx:=u D } σ H):aFu t u D σ H:=h
def aAE (K:PySem.W.Frag):Sp:=fun vs H Q _=>∃ (x:V) (i:Nat) (rp:Addr) (us:List V) (n:Int) (ws:List (List Int)) (l:List Int) (ps:List (Int×Int)) (S0:List Addr),vs = [x,.int i,.ref rp]/\Fx S0 H/\Den K H (eM n ws) x/\eK (eM n ws)=true/\n<=4/\ws[i]?=some l/\SqT K H rp us/\aN K H (ps.map bA) us/\ps.length=n.toNat/\(∀ y∈ps,lY y) /\
 ∀ p xs H',aD H H'->H p=none->H' p=some (.lst xs)->xs.length<=200->(∀ z∈xs,DeP K RowB (p::S0) H' z)->Q (.ref p) H'
theorem kH:FnScope ["book", "at", "row", "found", "hand", "a", "b", "others", "one", "other", "moved_on"] ["book", "at", "row"] (aI aA4):=⟨rfl,rfl,rfl,by decide +kernel,rfl,by decide +kernel,by decide +kernel⟩
set_option maxHeartbeats 4000000 in
theorem aE7 (G:Fn K mg "_law_abent_rows" aA4 ["book", "at", "row"] f fd) (B:Bl mg) (GSu:Fn K mg "_law_asum" vI ["some"] fU dU) (OSu:FnOk P w K mg base CX0 2 fU dU ["some"] (tS K)):FnOk P w K mg base CX0 3 f fd ["book", "at", "row"] (aAE K):=by
 refine G.fn.ok kH (fun vs H Q E h=>?_) (fun cdv A outer s H vs Q E hr h=>?_)
 ·obtain ⟨x,i,rp,us,n,ws,l,ps,S0,rfl,_⟩:=h
  rfl
 ·obtain ⟨x,i,rp,us,n,ws,l,ps,S0,rfl,F0,hx,hbk,hn4,hl,hrp,hus,hpl,hT,k⟩:=h
  have r2:Room 2 _:=hr
  refine ⟨_,(aE (aS (i:=3) kH.nd rfl (Or.inl rfl) (cI (aA (cP (kO (K:=K) rfl) (pv 2) (dX aG) eO) (aA (aU (kN (K:=K) rfl) (pv 2) (bG (aA (bG (aA aG (aA aG aC))) aC))) (aA (cE (nR (K:=K) rfl) rfl B.list qC (aA (pv 2) aC)) (aA vT (aA (aBm (K:=K) rfl (pv 2) (oK lE aG)) (aA (bG aC) aC))))))))
  (aE (cU PassesOwn.never rfl (cT rfl B.range (aA (aT (bT (K:=K) rfl) (pv 0) aG (fun _ _=>rfl)) aC)) (aM (i:=4) kH.nd rfl (Or.inl rfl))
   (aE (lD (aT (bT (K:=K) rfl) (pv 2) (pv 4) (fun _ _=>rfl)) (kE rfl (aX (aM (i:=5) kH.nd rfl (Or.inl rfl)) (aX (aM (i:=6) kH.nd rfl (Or.inl rfl)) dQ))))
  (aE (aS (i:=7) kH.nd rfl (Or.inl rfl) (cI (aA (bG (aA (aU eJ (pv 5) aG) (aA (pv 6) aC))) (aA (bG (aA (aU vV (pv 5) aG) (aA (pv 6) aC))) (aA (bG (aA (pv 5) (aA (aU eJ (pv 6) aG) aC))) (aA (bG (aA (pv 5) (aA (aU vV (pv 6) aG) aC))) (aA (bG (aA (aU cY aG (pv 5)) (aA (aU cY aG (pv 6)) aC))) (aA (bG (aA aG (aA aG aC))) (aA (bG (aA (aU aFB aG aG) (aA aG aC))) (aA (bG (aA (pv 5) (aA dG aC))) aC))))))))))
  (aE (aS (i:=7) kH.nd rfl (Or.inl rfl) (aU hG (pv 7) (cI (aA (bG (aA dG (aA (pv 6) aC))) (aA (bG (aA vT (aA (pv 6) aC))) (aA (bG (aA (pv 5) (aA aFt aC))) (aA (bG (aA (pv 5) (aA (oK lE (pv 6)) aC))) (aA (bG (aA (oK lE (pv 5)) (aA (oK lE (pv 6)) aC))) (aA (bG (aA dG (aA (pv 6) aC))) (aA (bG (aA (pv 5) (aA dG aC))) aC))))))))))
  (aE (cU PassesOwn.never rfl (cN (aU hG (pv 7) (cI (aA (cI (aA (pv 5) (aA (pv 6) aC))) (aA (bG (aA (pv 5) aC)) (aA vT (aA (bG (aA (pv 5) (aA (pv 6) (aA aG aC)))) aC))))))) (aM (i:=8) kH.nd rfl (Or.inl rfl))
   (aJ (gM (kL PySem.F.plainAttrs_list PySem.F.slot_list_append PySem.F.type_list_append fY (pv 3) (aA (aU (kN (K:=K) rfl) (aU (kN (K:=K) rfl) (cP (kO (K:=K) rfl) (pv 2) eO (dX (pv 4))) (bG (aA (pv 8) aC))) (cP (kO (K:=K) rfl) (pv 2) (dX (aU eJ (pv 4) aG)) eO)) aC)))))
  (aE (gM (kL PySem.F.plainAttrs_list PySem.F.slot_list_append PySem.F.type_list_append fY (pv 3) (aA (aU (kN (K:=K) rfl) (aU (kN (K:=K) rfl) (cP (kO (K:=K) rfl) (pv 2) eO (dX (pv 4))) (aBm (K:=K) rfl (cP (kO (K:=K) rfl) (pv 2) (dX (pv 4)) (dX (aU eJ (pv 4) aG))) (oK lE aG))) (cP (kO (K:=K) rfl) (pv 2) (dX (aU eJ (pv 4) aG)) eO)) aC)))
  (aJ (cU PassesOwn.never rfl (gC (aT (bT (K:=K) rfl) (aT (bT (K:=K) rfl) (pv 0) aG (fun _ _=>rfl)) (pv 1) (fun _ _=>rfl))) (aM (i:=9) kH.nd rfl (Or.inl rfl))
   (aJ (cX (bF mC (pv 9) (pv 4) (bK _))
   (aE (aS (i:=10) kH.nd rfl (Or.inl rfl) (cE (nR (K:=K) rfl) rfl B.list qC (aA (pv 2) aC)))
  (aE (lD (bD GSu OSu r2 rfl (aA (cI (aA (aT (bT (K:=K) rfl) (pv 2) (pv 4) (fun _ _=>rfl)) (aA (aT (bT (K:=K) rfl) (pv 2) (pv 9) (fun _ _=>rfl)) (aA (bG (aA aG (aA aG aC))) aC)))) aC)) (rY (pv 10) (pv 9) kK))
  (aE (lD (bG (aA (oK lE aG) (aA aG aC))) (rY (pv 10) (pv 4) kK))
  (aJ (gM (kL PySem.F.plainAttrs_list PySem.F.slot_list_append PySem.F.type_list_append fY (pv 3) (aA (cE (gF (K:=K) rfl) rfl B.tuple dY (aA (pv 10) aC)) aC)))))))
   bM))))))))))
  (aJ (aR (pv 3))))),?_⟩
  obtain ⟨a,b,ys,rfl,ha,hb,hys⟩:=fM hx
  have hly:=aF hys
  rw [Qb] at hly
  obtain ⟨hn1,hn6,h12,hws⟩:=cC hbk
  have hul:=aF hus
  rw [Qb,hpl] at hul
  obtain ⟨c1,c2,c3⟩:=hJ (hws l (Qe hl))
  have hl6:=hU (by omega) c2 c3
  have hyi:=Qc (show i < ys.length by rw [hly]; exact (Qd.mp hl).1)
  generalize ys[i]'(by rw [hly]; exact (Qd.mp hl).1)=yv at hyi
  obtain ⟨l',hl1,hl2⟩:=aY hys hyi
  rw [hl] at hl1
  cases hl1
  obtain ⟨al,rfl,hal⟩:=bV.mp hl2
  have hrow:∀ {S:List Addr} {H':Hp},aD H H'->Fx S H'->TuB K S 4 H' (.ref rp):=fun {S H'} s' f'=>⟨rp,us,ps.map bA,rfl,f'.seqT (s'.seqT hrp),kY f' (s'.denAll _ _ hus),by rw [Qb]; omega,fun e he=>by obtain ⟨y,hy,rfl⟩:=Qz.mp he; exact (hT y hy).fr⟩
  have R0:TuB K S0 4 H (.ref rp):=hrow (aD.refl _) F0
  have F01:FrB (.tuple [.int 0,.int 1]):=lY.fr (y:=(0,1)) ⟨by decide,by decide,by decide,by decide⟩
  refine qO (aE1 (S:=S0) (R:=RowB) (K:=K) (n:=6) F0 ?_ (fun fl xs H1 s1 hfl hxl hxs=>?_))
  ·refine kZ (Tu.row (vQ (m:=4) (lU rfl R0) (cR lH) dM)) ?_
   refine kZ (Tu.row (uE (m:=4) (n:=1) (lU rfl R0) (aDO (ED.dep (gA (aP iJ (aP iJ cK))) F01)))) ?_
   refine kZ (aEZ (m:=4) (lU rfl R0)) ?_
   refine kZ (ED.dep aAB aER) ?_
   refine kZ (Tu.row (aDP (m:=4) (lU rfl R0) wB)) ?_
   exact kZ (Tu.row aGj) aE0
  have I0:LI K RowB S0 H fl 6 (upd H1 fl (.lst xs)):=LI.begin F0 s1 hfl (by omega) hxs
  have hf:H fl=none:=s1.free hfl
  generalize upd H1 fl (.lst xs)=H2 at I0
  have mS:fl∈fl::S0:=Qn ..
  refine ⟨_,rfl,a,_,0,.int n,rfl,rfl,I0.same.seqT ha,rfl,n,rfl,by omega,by omega,jK (lo:=0) (n:=n.toNat) (fun j σ H3=>(∃ v4 v5 v6 v7 v8 v9 v10,σ = [some (.ref a),some (.int i),some (.ref rp),some (.ref fl),v4,v5,v6,v7,v8,v9,v10])/\LI K RowB S0 H fl (6+26*j) H3) ⟨⟨_,_,_,_,_,_,_,rfl⟩,I0⟩ ?_ ?_⟩
  ·rintro j σ H3 hj ⟨⟨v4,v5,v6,v7,v8,v9,v10,rfl⟩,I3⟩
   have hu:=Qc (show j < us.length by omega)
   generalize us[j]'(by omega)=u at hu
   obtain ⟨y,hy,hyd⟩:=aY hus hu
   obtain ⟨pp,rfl,hpp⟩:=bE.mp hyd
   have hTy:=hT y (Qe hy)
   obtain ⟨t1,t2,t3,t4⟩:=hTy
   have m1:tO 7 y.1:=⟨jI (Jy (show (7:Int).natAbs<=7 by decide) (by decide)),jI (Jy (show y.1.natAbs<=100000 by omega) (by decide))⟩
   have m2:tO 7 y.2:=⟨jI (Jy (show (7:Int).natAbs<=7 by decide) (by decide)),jI (Jy (show y.2.natAbs<=100000 by omega) (by decide))⟩
   dsimp only [cH]
   rw [Xv]
   refine ⟨_,rfl,_,rfl,rp,_,_,_,rfl,rfl,I3.same.seqT hrp,bX hu,pp,_,rfl,I3.same.seqT hpp,rfl,_,_,rfl,_,_,rfl,rfl,?_⟩
   dsimp only
   refine qO (yG (R:=EL K (fl::S0) (uG y.1 y.2)) I3.fx ?_ fun o8 H4 s4 e8=>?_)
   ·unfold uG
    exact xO (aP (gA (aP (aBo (bZ rfl) iJ) (aP (bZ rfl) cK))) (aP (gA (aP (aBo (bZ rfl) iJ) (aP (bZ rfl) cK))) (aP (gA (aP (bZ rfl) (aP (aBo (bZ rfl) iJ) cK))) (aP (gA (aP (bZ rfl) (aP (aBo (bZ rfl) iJ) cK))) (aP (gA (aP (aAC iJ (bZ rfl) m1) (aP (aAC iJ (bZ rfl) m2) cK))) (aP (gA (aP iJ (aP iJ cK))) (aP (gA (aP (aAC iJ iJ ⟨by decide,by decide,by decide⟩) (aP iJ cK))) (aP (gA (aP (bZ rfl) (aP aBn cK))) cK))))))))
   have I4:=I3.next s4 (Qg _)
   refine qO (yG (R:=EL K (fl::S0) (uG y.1 y.2++vR y.1 y.2)) I4.fx (aDN (aDM rfl e8) ?_ (show (8:Nat)+7<=1000 by decide)) fun o15 H5 s5 e15=>?_)
   ·unfold vR
    exact xO (aP (gA (aP aBn (aP (bZ rfl) cK))) (aP (gA (aP aAB (aP (bZ rfl) cK))) (aP (gA (aP (bZ rfl) (aP aGh cK))) (aP (gA (aP (bZ rfl) (aP (aDL (bZ rfl)) cK))) (aP (gA (aP (aDL (bZ rfl)) (aP (aDL (bZ rfl)) cK))) (aP (gA (aP aBn (aP (bZ rfl) cK))) (aP (gA (aP (bZ rfl) (aP aBn cK))) cK)))))))
   have I5:=I4.next s5 (Qg _)
   refine qP (yG (R:=EL K (fl::S0) (uG y.1 y.2++vR y.1 y.2++zX y.1 y.2)) I5.fx (aDN (aDM rfl e15) ?_ (show (15:Nat)+4<=1000 by decide)) fun q H6 s6 e19=>?_)
   ·unfold zX
    exact xO (aP (aGi (aP (bZ rfl) (aP (bZ rfl) cK))) (aP (gA (aP (bZ rfl) cK)) (aP aAB (aP (gA (aP (bZ rfl) (aP (bZ rfl) (aP iJ cK)))) cK))))
   have I6:=I5.next s6 (Qg _)
   obtain ⟨qp,xs19,rfl,hq,hd19⟩:=e19
   have h19:xs19.length=19:=by rw [aF hd19]; rfl
   refine ⟨qp,rfl,⟨_,SqL.of (Vw.sub _ _ hq)⟩,iB (K:=K) (a:=qp) (xs:=xs19) (fun m σ H7=>(∃ v8 v9 v10,σ = [some (.ref a),some (.int i),some (.ref rp),some (.ref fl),some (.int j),some (.int y.1),some (.int y.2),some o15,v8,v9,v10])/\LI K RowB S0 H fl (6+26*j+m) H7/\Vw (fl::S0) H7 qp=some (.lst xs19)/\aN K (Vw (fl::S0) H7) (uG y.1 y.2++vR y.1 y.2++zX y.1 y.2) xs19) ⟨⟨_,_,_,rfl⟩,I6,hq,hd19⟩ (fun m σ H7 _ ⟨_,_,g,_⟩=>SqL.of (Vw.sub _ _ g)) ?_ ?_⟩
   ·rintro m z σ H7 hz ⟨⟨v8,v9,v10,rfl⟩,I7,hq7,hd7⟩
    obtain ⟨d,hd,hdz⟩:=iO hd7 hz
    have hF:=aE5 (a:=y.1) (b:=y.2) ⟨t1,t2,t3,t4⟩ d (Qe hd)
    have hm:m < 19:=by rw [<- h19]; exact (Qd.mp hz).1
    have R7:=hrow I7.same I7.fx
    dsimp only [cH]
    refine aAD hf I7 (by omega) rfl (Tu.row (uE (m:=5) (n:=4) (uE (m:=4) (n:=1) (vQ (lU rfl R7) dM (cR (eA rfl ⟨_,rfl⟩))) (aDO (eA (R:=DeP K FrB (fl::S0)) rfl ⟨d,hdz,hF⟩))) (vQ (lU rfl R7) (cR (mI (eA rfl ⟨_,rfl⟩) lH)) dM))) fun H8 b8 I8=>?_
    exact ⟨⟨_,_,_,rfl⟩,I8,(But.vw b8 mS) _ _ hq7,(But.vw b8 mS).denAll _ _ hd7⟩
   ·rintro σ H7 ⟨⟨v8,v9,v10,rfl⟩,I7,_,_⟩
    rw [h19] at I7
    dsimp only
    have R7:=hrow I7.same I7.fx
    refine qP (aAD hf I7 (by omega) rfl (Tu.row (uE (m:=8) (n:=4) (uE (m:=4) (n:=4) (vQ (lU rfl R7) dM (cR (eA rfl ⟨_,rfl⟩))) (aDP (vQ (lU rfl R7) (cR (eA rfl ⟨_,rfl⟩)) (cR (mI (eA rfl ⟨_,rfl⟩) lH))) wB)) (vQ (lU rfl R7) (cR (mI (eA rfl ⟨_,rfl⟩) lH)) dM))) fun H8 b8 I8=>?_)
    have sb:∀ {N:Nat} {H':Hp},LI K RowB S0 H fl N H'->aD H H':=fun I=>I.same
    refine ⟨_,rfl,a,_,1,.ref b,rfl,rfl,I8.same.seqT ha,rfl,_,rfl,b,_,i,.ref al,rfl,rfl,I8.same.seqT hb,bX hyi,al,rfl,⟨_,I8.same.seqT hal⟩,oJ (K:=K) (a:=al) (xs:=l.map V.int) (fun m σ H9=>(∃ v8 v9 v10,σ = [some (.ref a),some (.int i),some (.ref rp),some (.ref fl),some (.int j),some (.int y.1),some (.int y.2),some o15,v8,v9,v10])/\LI K RowB S0 H fl (6+26*j+19+1+m) H9) ⟨⟨_,_,_,rfl⟩,I8⟩ (fun m σ H9 _ ⟨_,I9⟩=>I9.same.seqT hal) ?_ ?_⟩
    ·rintro m ov σ H9 hov ⟨⟨v8,v9,v10,rfl⟩,I9⟩
     obtain ⟨o,ho,rfl⟩:=iH hov
     obtain ⟨o0,o1⟩:=c2 o (Qe ho)
     have hml:m < l.length:=(Qd.mp ho).1
     have hu2:=Qc (show o.toNat < us.length by omega)
     generalize us[o.toNat]'(by omega)=u2 at hu2
     obtain ⟨y2,hy2,hyd2⟩:=aY hus hu2
     obtain ⟨po,rfl,hpo⟩:=bE.mp hyd2
     have hT2:=hT y2 (Qe hy2)
     have hcast:((o.toNat:Nat):Int)=o:=by omega
     have hat:=bX hu2
     rw [hcast] at hat
     obtain ⟨q1,q2⟩:=aE6 (x:=y) (y:=y2) ⟨t1,t2,t3,t4⟩ hT2
     dsimp only [cH]
     refine ⟨_,rfl,_,rfl,rfl,_,rfl,?_⟩
     refine gD (fun c=>?_) (fun c=>?_)
     ·refine ⟨_,rfl,rp,us,rfl,.inr (I9.same.seqT hrp),fun mo hmo=>?_⟩
      have s10:=aD.new (o:=.lst us) hmo
      have e10:upd H9 mo (.lst us) mo=some (.lst us):=aB
      generalize upd H9 mo (.lst us)=H10 at s10 e10 ⊢
      have s010:=I9.same.trans s10
      dsimp only
      refine ⟨_,rfl,_,rfl,rp,_,_,_,rfl,rfl,s010.seqT hrp,bX hu,_,rfl,_,rfl,rp,_,o,_,rfl,rfl,s010.seqT hrp,hat,sz2 _ _,fun p1 hp1=>⟨cA (show 3<=1000 by decide),fun pl hpl2=>?_⟩⟩
      have s11:=(aD.new (o:=.tup [.int 1,.int 1]) hp1).trans (aD.new (o:=.lst [.ref pp,.ref po,.ref p1]) hpl2)
      have g1:SqT K (upd (upd H10 p1 (.tup [.int 1,.int 1])) pl (.lst [.ref pp,.ref po,.ref p1])) p1 [.int 1,.int 1]:=(aD.new hpl2).seqT (SqT.of aB)
      have g2:upd (upd H10 p1 (.tup [.int 1,.int 1])) pl (.lst [.ref pp,.ref po,.ref p1]) pl=some (.lst [.ref pp,.ref po,.ref p1]):=aB
      generalize upd (upd H10 p1 (.tup [.int 1,.int 1])) pl (.lst [.ref pp,.ref po,.ref p1])=H11 at s11 g1 g2 ⊢
      have s011:=s010.trans s11
      refine ⟨pl,[.ref pp,.ref po,.ref p1],[y,y2,(1,1)],rfl,SqL.of g2,aH.mpr ⟨_,_,rfl,bE.mpr ⟨pp,rfl,s011.seqT hpp⟩,aH.mpr ⟨_,_,rfl,bE.mpr ⟨po,rfl,s011.seqT hpo⟩,aH.mpr ⟨_,_,rfl,bE.mpr ⟨p1,rfl,g1⟩,aL.mpr rfl⟩⟩⟩,q1,fun pt H12 s12 hpt=>?_⟩
      have s912:=s10.trans (s11.trans s12)
      have ixo:ixN us.length o=some o.toNat:=by unfold ixN; rw [if_pos o0,if_pos (by omega)]
      refine ⟨_,rfl,_,rfl,mo,us,o,o.toNat,rfl,rfl,(s11.trans s12) _ _ e10,ixo,?_⟩
      have s13:aD H9 (upd H12 mo (.lst (us.set o.toNat (.ref pt)))):=pR s912 hmo
      have e13:upd H12 mo (.lst (us.set o.toNat (.ref pt))) mo=some (.lst (us.set o.toNat (.ref pt))):=aB
      have hpt2:SqT K (upd H12 mo (.lst (us.set o.toNat (.ref pt)))) pt [.int (eT [y,y2,(1,1)]).1,.int (eT [y,y2,(1,1)]).2]:=But.seqT But.at ((s11.trans s12) _ _ e10) hpt
      generalize upd H12 mo (.lst (us.set o.toNat (.ref pt)))=H13 at s13 e13 hpt2 ⊢
      dsimp only
      refine ⟨_,rfl,sz2 _ _,fun p2 hp2=>?_⟩
      have s14:=aD.new (o:=.tup [.int (-1),.int 1]) hp2
      have g14:SqT K (upd H13 p2 (.tup [.int (-1),.int 1])) p2 [.int (-1),.int 1]:=SqT.of aB
      generalize upd H13 p2 (.tup [.int (-1),.int 1])=H14 at s14 g14 ⊢
      have ixj:ixN (us.set o.toNat (.ref pt)).length (j:Int)=some j:=by unfold ixN; rw [if_pos (by omega),if_pos (by rw [Xs]; omega)]; rfl
      refine ⟨_,rfl,_,rfl,mo,_,(j:Int),j,rfl,rfl,s14 _ _ e13,ixj,?_⟩
      have e14:=s14 _ _ e13
      have s15:aD H9 (upd H14 mo (.lst ((us.set o.toNat (.ref pt)).set j (.ref p2)))):=pR (s13.trans s14) hmo
      have e15':upd H14 mo (.lst ((us.set o.toNat (.ref pt)).set j (.ref p2))) mo=some (.lst ((us.set o.toNat (.ref pt)).set j (.ref p2))):=aB
      have hpt3:SqT K (upd H14 mo (.lst ((us.set o.toNat (.ref pt)).set j (.ref p2)))) pt _:=But.seqT But.at e14 (s14.seqT hpt2)
      have g15:SqT K (upd H14 mo (.lst ((us.set o.toNat (.ref pt)).set j (.ref p2)))) p2 _:=But.seqT But.at e14 g14
      generalize upd H14 mo (.lst ((us.set o.toNat (.ref pt)).set j (.ref p2)))=H15 at s15 e15' hpt3 g15 ⊢
      have f15:=I9.fx.same s15
      have D15:aN K (Vw (fl::S0) H15) (((ps.map bA).set o.toNat (bA (eT [y,y2,(1,1)]))).set j (bA (-1,1))) ((us.set o.toNat (.ref pt)).set j (.ref p2)):=lT (bE.mpr ⟨p2,rfl,f15.seqT g15⟩) j (lT (bE.mpr ⟨pt,rfl,f15.seqT hpt3⟩) o.toNat (kY f15 ((I9.same.trans s15).denAll _ _ hus)))
      have RR:∀ e∈((ps.map bA).set o.toNat (bA (eT [y,y2,(1,1)]))).set j (bA (-1,1)),FrB e:=fun e he=>by
       rcases Zw he with he | rfl
       ·rcases Zw he with he | rfl
        ·obtain ⟨z,hz,rfl⟩:=Qz.mp he
         exact (hT z hz).fr
        ·exact q2
       ·exact lA fun h _=>absurd h (by decide)
      dsimp only
      refine aAD hf (I9.next s15 (Qg _)) (by omega) rfl ?_ fun H16 b16 I16=>⟨⟨_,_,_,rfl⟩,I16⟩
      exact fun Hn sn fn Q' k'=>⟨_,rfl,mo,_,rfl,.inl ⟨SqL.of (sn _ _ e15'),fun r hr=>k' _ _ (aD.new hr) ⟨.tuple _,bB.mpr ⟨r,_,rfl,SqT.of (Vw.at fn hr),(Vw.same (sn.trans (aD.new hr))).denAll _ _ D15⟩,pM RR⟩⟩⟩
     ·exact ⟨⟨_,_,_,rfl⟩,I9.next (aD.refl _) (by omega)⟩
    ·rintro σ H9 ⟨⟨v8,v9,v10,rfl⟩,I9⟩
     exact ⟨⟨_,_,_,_,_,_,_,rfl⟩,I9.next (aD.refl _) (by rw [Qb]; omega)⟩
  ·rintro σ H3 ⟨⟨v4,v5,v6,v7,v8,v9,v10,rfl⟩,I3⟩
   obtain ⟨xs3,h1,h2,h3⟩:=I3.has
   exact ⟨_,rfl,k fl xs3 H3 I3.same hf h1 (by omega) h3⟩
theorem gY (hK:X.K=K):SlR X (aFI K):=by subst hK; exact aAP
theorem aDQ {st:Expr} {pos:Pos} (hK:X.K=K) (he:PE X e te) (hst:PE X st ts):PE X (.Subscript e (.Slice none none (some st) p2) pos) (aCR K te ts):=by subst hK; exact aAV he hst
section
variable {σ:St} {t:TA} {tl th:TO}
def ItE (K:PySem.W.Frag) (m:Nat) (H:Hp) (z:V):Prop:=∃ q zs ds,z=.ref q/\H q=some (.lst zs)/\aN K H ds zs/\ds.length<=m/\∀ d∈ds,RowB d
theorem ItE.mo {z:V} (h:ItE K m H z) (s:aD H H'):ItE K m H' z:=let ⟨q,zs,ds,a,b,c,d⟩:=h; ⟨q,zs,ds,a,s _ _ b,s.denAll _ _ c,d⟩
theorem ItE.le {z:V} (h:ItE K m H z) (e:m<=n):ItE K n H z:=let ⟨q,zs,ds,a,b,c,d,f⟩:=h; ⟨q,zs,ds,a,b,c,Qu d e,f⟩
def IV (K:PySem.W.Frag) (S:List Addr) (m:Nat):Hp->V->Prop:=fun H v=>ItE K m (Vw S H) v
instance:Mo (IV K S m):=⟨fun e h=>h.mo (Vw.same e)⟩
theorem iP {i:Nat} (h:σ[i]?=some (some v)) (r:IV K S m H0 v):Al H0 S (uH i) σ (IV K S m):=eA (R:=IV K S m) h r
theorem Iv.le (h:Al H0 S te σ (IV K S m)) (e:m<=n:=by decide):Al H0 S te σ (IV K S n):=h.mono fun _ _ r=>r.le e
theorem aGk:Al H0 S (aAc rF) σ (IV K S 0):=fun H s f Q k=>⟨by rw [sizeLine_eq]; simp,fun p hp=>k _ _ (aD.new hp) ⟨p,[],[],rfl,Vw.at f hp,aL.mpr rfl,Qg _,fun d hd=>absurd hd (by simp)⟩⟩
theorem xP (h:Al H0 S te σ (DeP K RowB S)):Al H0 S (aAc (nP te rF)) σ (IV K S 1):=fun H s f Q k=>h H s f _ fun v H1 s1 ⟨d,h1,h2⟩=>⟨by rw [sizeLine_eq]; simp,fun p hp=>k _ _ (s1.trans (aD.new hp)) ⟨p,[v],[d],rfl,Vw.at (f.same s1) hp,aH.mpr ⟨v,[],rfl,(Vw.same (aD.new hp)).den _ _ h1,aL.mpr rfl⟩,Qg _,fun e he=>by rw [Qi.mp he]; exact h2⟩⟩
theorem lV (ha:Al H0 S ta σ (IV K S m)) (hb:Al H0 S tb σ (IV K S n)) (hn:m+n<=1000:=by decide):Al H0 S (tOp aFM ta tb) σ (IV K S (m+n)):=fun H s f Q k=>ha H s f _ fun v H1 s1 d1=>hb H1 (s.trans s1) (f.same s1) _ fun u H2 s2 d2=>by
 obtain ⟨p,xs,ds,rfl,g,hxs,l1,f1⟩:=d1
 obtain ⟨q,ys,es,rfl,g',hys,l2,f2⟩:=d2
 have hxs2:=(Vw.same s2).denAll _ _ hxs
 refine ⟨p,q,xs,ys,rfl,rfl,s2 _ _ (Vw.sub _ _ g),Vw.sub _ _ g',by rw [sizeLine_eq,aF hxs,aF hys]; omega,fun r hr=>k _ _ (s1.trans (s2.trans (aD.new hr))) ⟨r,_,ds++es,rfl,Vw.at ((f.same s1).same s2) hr,aZ ((Vw.same (aD.new hr)).denAll _ _ hxs2) ((Vw.same (aD.new hr)).denAll _ _ hys),by rw [Qt]; omega,fun e he=>?_⟩⟩
 rcases Jg.mp he with he | he
 ·exact f1 e he
 ·exact f2 e he
theorem nT (ha:Al H0 S ta σ (IV K S m)) (hl:AlO H0 S tl σ) (hh:AlO H0 S th σ):Al H0 S (tSl (aFI K) ta tl th) σ (IV K S m):=fun H s f Q k=>ha H s f _ fun v H1 s1 d1=>hl H1 (s.trans s1) (f.same s1) _ fun lo H2 s2=>hh H2 ((s.trans s1).trans s2) ((f.same s1).same s2) _ fun hi H3 s3=>by
 obtain ⟨p,xs,ds,rfl,g,hxs,l1,f1⟩:=d1
 have s13:=s2.trans s3
 refine ⟨p,xs,rfl,SqL.of (s13 _ _ (Vw.sub _ _ g)),fun r hr=>?_⟩
 obtain ⟨es,e1,e2,e3⟩:=uF ((Vw.same (s13.trans (aD.new hr))).denAll _ _ hxs) lo hi
 exact k _ _ (s1.trans (s13.trans (aD.new hr))) ⟨r,_,es,rfl,Vw.at ((f.same s1).same s13) hr,e1,by omega,fun e he=>f1 e (e3 e he)⟩
theorem aGl (h:Al H0 S te σ (IV K S m)) (hs:Al H0 S ts σ fun _ v=>v=.int (-1)):Al H0 S (aCR K te ts) σ (IV K S m):=fun H s f Q k=>h H s f _ fun v H1 s1 d1=>hs H1 (s.trans s1) (f.same s1) _ fun u H2 s2 e=>by
 obtain ⟨p,xs,ds,rfl,g,hxs,l1,f1⟩:=d1
 have hxs2:=(Vw.same s2).denAll _ _ hxs
 exact ⟨e,p,xs,rfl,SqL.of (s2 _ _ (Vw.sub _ _ g)),fun r hr=>k _ _ (s1.trans (s2.trans (aD.new hr))) ⟨r,_,ds.reverse,rfl,Vw.at ((f.same s1).same s2) hr,oH ((Vw.same (aD.new hr)).denAll _ _ hxs2),by rw [Zh]; exact l1,fun e he=>f1 e (List.mem_reverse.mp he)⟩⟩
def AlX (H0:Hp) (E:Hp->V->Prop) (S:List Addr) (n:Nat) (t:TA) (σ:St):Prop:=∀ H,aD H0 H->Fx S H->∀ Q:List V->Hp->Prop,(∀ vs H',aD H H'->vs.length=n->(∀ v∈vs,E H' v)->Q vs H')->t σ H Q
theorem aBp {E:Hp->V->Prop}:AlX H0 E S 0 rF σ:=fun H _ _ Q k=>k [] H (aD.refl H) rfl (fun _ h=>(Qq h).elim)
theorem lB {E:Hp->V->Prop} [mm:Mo E] (h:Al H0 S te σ E) (r:AlX H0 E S n tr σ):AlX H0 E S (n+1) (nP te tr) σ:=fun H s f Q k=>h H s f _ fun v H1 s1 d1=>r H1 (s.trans s1) (f.same s1) _ fun vs H2 s2 l d2 =>
 k (v::vs) H2 (s1.trans s2) (by rw [Jn,l]) fun x hx=>by
  rcases Qj.mp hx with rfl | hx
  ·exact mm.mo s2 d1
  ·exact d2 x hx
theorem aBq {E:Hp->V->Prop} {Q:VK} {t:TA} (f:Fx S H) (h:AlX H E S n t σ) (k:∀ p xs H1,aD H H1->H1 p=none->xs.length=n->(∀ x∈xs,E H1 x)->Q (.ref p) (upd H1 p (.lst xs))) (hn:n<=1000:=by decide):aAc t σ H Q :=
 h H (aD.refl H) f _ fun vs H1 s1 l d=>⟨by rw [l]; exact Ze (vC hn),fun p hp=>k p vs H1 s1 hp l d⟩
structure LG (K:PySem.W.Frag) (S0:List Addr) (H0:Hp) (fl:Addr) (N:Nat) (H:Hp):Prop where
 same:aD H0 H
 f0:Fx S0 H
 has:∃ xs,H fl=some (.lst xs)/\xs.length<=N/\∀ z∈xs,IV K (fl::S0) 9 H z
variable {fl:Addr} {N M:Nat} {S0:List Addr}
theorem LG.fx (I:LG K S0 H0 fl N H):Fx (fl::S0) H:=fun b hb=>by
 rcases Qj.mp hb with rfl | hb
 ·obtain ⟨xs,h,_⟩:=I.has; exact ⟨_,h⟩
 ·exact I.f0 b hb
theorem LG.next (I:LG K S0 H0 fl N H) (s:aD H H') (h:N<=M):LG K S0 H0 fl M H' :=
 ⟨I.same.trans s,I.f0.same s,let ⟨xs,h1,h2,h3⟩:=I.has; ⟨xs,s _ _ h1,Qu h2 h,fun z hz=>(h3 z hz).mo (Vw.same s)⟩⟩
theorem LG.app {z:V} (hf:H0 fl=none) (I:LG K S0 H0 fl N H) (s:aD H H1) (hz:IV K (fl::S0) 9 H1 z) (hN:N<=1000) :
  ∃ xs,H1 fl=some (.lst xs)/\xs.length < sizeLine/\LG K S0 H0 fl (N+1) (upd H1 fl (.lst (xs++[z]))):=by
 obtain ⟨xs,h1,h2,h3⟩:=I.has
 refine ⟨xs,s _ _ h1,by rw [sizeLine_eq]; omega,pR (I.same.trans s) hf,fun b hb=>?_,_,aB,by rw [Qt]; show _+1<=_; omega,fun y hy=>?_⟩
 ·by_cases e:b=fl
  ·rw [e]; exact ⟨_,aB⟩
  ·rw [aK e]; exact (I.f0.same s) b hb
 ·have kp:aD (Vw (fl::S0) H1) (Vw (fl::S0) (upd H1 fl (.lst (xs++[z])))):=But.vw (t:=fl) But.at (Qn ..)
  rcases Jg.mp hy with hy | hy
  ·exact ((h3 y hy).mo (Vw.same s)).mo kp
  ·rw [Qi.mp hy]
   exact hz.mo kp
theorem xQ {q:Nat} (hf:H0 fl=none) (I:LG K S0 H0 fl N H) (hN:N<=1000) (hq:σ[q]?=some (some (.ref fl))) (he:Al H (fl::S0) te σ (IV K (fl::S0) 9)) (k:∀ H',But fl H H'->LG K S0 H0 fl (N+1) H'->D.nx σ H'):aCr (tBM K "list" vY (uH q) (nP te rF)) D σ H:=by
 obtain ⟨xs0,h1,_⟩:=I.has
 refine ⟨_,hq,.inl ⟨rfl,_,SqL.of h1⟩,yG I.fx he fun z H1 s1 hz=>?_⟩
 obtain ⟨xs,e1,e2,I2⟩:=LG.app hf I s1 hz hN
 exact ⟨fl,xs,z,rfl,rfl,e1,e2,k _ ((But.of s1).trans But.at) I2⟩
theorem LG.begin (s:aD H0 H1) (hp:H1 p=none) (hN:xs.length<=N) (h:∀ x∈xs,IV K [] 9 H1 x):LG K [] H0 p N (upd H1 p (.lst xs)):=⟨s.trans (aD.new hp),Fx.nil,xs,aB,hN,fun z hz=>(h z hz).mo (Vw.grow hp)⟩
theorem LG.beside (I:LG K [] H0 fl N H) (s:aD H H1) (hw:H1 wl=none):LG K [wl] H0 fl N (upd H1 wl (.lst cs)):=by
 have nw:fl≠wl:=fun e=>by
  obtain ⟨xs,h,_⟩:=I.has
  have:=s _ _ h
  rw [e,hw] at this; cases this
 refine ⟨I.same.trans (s.trans (aD.new hw)),fun b hb=>by rw [Qi.mp hb]; exact ⟨_,aB⟩,?_⟩
 obtain ⟨xs,h1,h2,h3⟩:=I.has
 have v:aD (Vw [fl] H) (Vw [fl,wl] (upd H1 wl (.lst cs))):=fun b o hb=>by
  have nf:b∉[fl]:=fun z=>by unfold Vw at hb; rw [if_pos z] at hb; cases hb
  have hb2:=s _ _ (Vw.sub _ _ hb)
  have n:b≠wl:=fun e=>by rw [e,hw] at hb2; cases hb2
  rw [Vw.out (fun z=>by
   rcases Qj.mp z with z | z
   ·exact nf (Qi.mpr z)
   ·exact n (Qi.mp z)),aK n]
  exact hb2
 exact ⟨xs,(aD.new hw) _ _ (s _ _ h1),h2,fun z hz=>(h3 z hz).mo v⟩
theorem LG.write (I:LG K [wl] H0 fl N H) (h0:H0 wl=none) (n:fl≠wl):LG K [wl] H0 fl N (upd H wl (.lst cs)):=⟨pR I.same h0,fun b hb=>by rw [Qi.mp hb]; exact ⟨_,aB⟩,by
 obtain ⟨xs,h1,h2,h3⟩:=I.has
 exact ⟨xs,by rw [aK n]; exact h1,h2,fun z hz=>(h3 z hz).mo (But.vw (t:=wl) But.at (by simp))⟩⟩
theorem Vw.less2:aD (Vw [a,b] H) (Vw [a] H):=fun c o h=>by
 have n:c∉[a,b]:=fun z=>by unfold Vw at h; rw [if_pos z] at h; cases h
 rw [Vw.out n] at h
 rw [Vw.out fun z=>n (by rw [Qi.mp z]; simp)]
 exact h
theorem LG.alone (I:LG K [wl] H0 fl N H) (h:N<=M):LG K [] H0 fl M H:=⟨I.same,Fx.nil,let ⟨xs,h1,h2,h3⟩:=I.has; ⟨xs,h1,Qu h2 h,fun z hz=>(h3 z hz).mo Vw.less2⟩⟩
theorem LG.two {p2:Addr} (I:LG K [] H0 fl N H) (s:aD H H2) (hy:∀ x∈ys,IV K [fl] 9 H2 x) (hr:H2 p2=none):∃ xs,H2 fl=some (.lst xs)/\xs.length<=N/\LG K [] H0 p2 (N+ys.length) (upd H2 p2 (.lst (xs++ys))):=by
 obtain ⟨xs,h1,h2,h3⟩:=I.has
 have v:aD (Vw [fl] H2) (Vw [p2] (upd H2 p2 (.lst (xs++ys)))):=fun b o hb=>by
  have hb2:=Vw.sub _ _ hb
  have n:b≠p2:=fun e=>by rw [e,hr] at hb2; cases hb2
  rw [Vw.out (fun z=>n (Qi.mp z)),aK n]
  exact hb2
 refine ⟨xs,s _ _ h1,h2,(I.same.trans s).trans (aD.new hr),Fx.nil,_,aB,by rw [Qt]; omega,fun z hz=>?_⟩
 rcases Jg.mp hz with hz | hz
 ·exact ((h3 z hz).mo (Vw.same s)).mo v
 ·exact (hy z hz).mo v
theorem rB {i:Nat} {ps:List (Int×Int)} (hv:σ[i]?=some (some (.ref wl))) (h:H0 wl=some (.lst cs)) (d:aN K H0 (ps.map bA) cs) (r:∀ y∈ps,FrB (bA y)):Al H0 S (tCB (fun xs H Q=>∃ p ys,xs = [V.ref p]/\((SqL K H p ys/\∀ l,H l=none->Q (V.ref l) (upd H l (.tup ys)))∨(SqT K H p ys/\Q (V.ref p) H))) (nP (uH i) rF)) σ (DeP K RowB S) :=
 fun Hn sn fn Q' k'=>⟨_,hv,wl,_,rfl,.inl ⟨SqL.of (sn _ _ h),fun q hq=>k' _ _ (aD.new hq) ⟨.tuple _,bB.mpr ⟨q,_,rfl,SqT.of (Vw.at fn hq),kY (fn.same (aD.new hq)) ((sn.trans (aD.new hq)).denAll _ _ d)⟩,pM fun e he=>by obtain ⟨y,hy,rfl⟩:=Qz.mp he; exact r y hy⟩⟩⟩
end
theorem aDR {ps:List (Int×Int)} {y:Int×Int} (e:H wl=some (.lst cs)) (d:aN K H (ps.map bA) cs) (g:SqT K H p [.int y.1,.int y.2]) (j:Nat):aN K (upd H wl (.lst (cs.set j (.ref p)))) ((ps.set j y).map bA) (cs.set j (.ref p)):=by
 have f:Fx [wl] H:=fun b hb=>by rw [Qi.mp hb]; exact ⟨_,e⟩
 have d2:=Vw.sub.denAll _ _ ((But.vw (t:=wl) (But.at (u:=.lst (cs.set j (.ref p)))) (Qi.mpr rfl):aD (Vw [wl] H) (Vw [wl] _)).denAll _ _ (kY f d))
 rw [List.map_set]
 exact lT (bE.mpr ⟨p,rfl,But.seqT But.at e g⟩) j d2
theorem aDS {ps:List (Int×Int)} {y:Int×Int} (h:∀ y∈ps,FrB (bA y)) (hy:FrB (bA y)):∀ z∈ps.set j y,FrB (bA z):=fun z hz=>by
 rcases Zw hz with hz | rfl
 ·exact h z hz
 ·exact hy
theorem aDT:RowB (.tuple (List.replicate n [PyData.tuple [.int 0,.int 1]]).flatten):=pM fun e he=>by
 have:e=.tuple [.int 0,.int 1]:=by
  obtain ⟨l,hl,he⟩:=List.mem_flatten.mp he
  rw [Zz hl] at he
  exact Qi.mp he
 rw [this]
 exact lY.fr (y:=(0,1)) ⟨by decide,by decide,by decide,by decide⟩
def qQ (x h:Int) (g:Nat):Int×Int:=(x*(if decide ((g:Int)=h) then 1 else 0),1)
theorem aCm {x h:Int} {g:Nat} (h0:0<=x) (h1:x<=99):FrB (bA (qQ x h g)):=lA fun _ _=>by
 unfold qQ
 by_cases c:(g:Int)=h
 ·rw [if_pos (by rw [decide_eq_true c])]
  exact ⟨by show 0<=x*1; omega,by show x*1<=_; omega,Xb _,show (1:Int)<=4096 by decide⟩
 ·rw [if_neg (by rw [decide_eq_false c]; decide)]
  exact ⟨by show 0<=x*0; omega,by show x*0<=_; omega,Xb _,show (1:Int)<=4096 by decide⟩
theorem aBr {x:Int} (c:Int) (hc:0<=c/\c<=100) (h0:0<=x) (h1:x<=99):FrB (bA (c*x,100)):=lA fun p _=>⟨p,by
 show c*x<=_
 have:c*x<=100*99:=Xw hc.2 h1 h0 (by decide)
 omega,by show (1:Int)<=100; decide,by show (100:Int)<=4096; decide⟩
def aDU (K:PySem.W.Frag):Sp:=fun vs H Q _=>∃ (x:V) (wp sp:Addr) (zs:List V) (n:Int) (ws:List (List Int)) (wt:List Int) (pss:List (List (Int×Int))),vs = [x,.ref wp,.ref sp]/\Den K H (eM n ws) x/\eK (eM n ws)=true/\n<=4/\ws.length<=4/\tV ws wt/\SqT K H wp (wt.map V.int)/\H sp=some (.lst zs)/\aN K H (pss.map fun ps=>.tuple (ps.map bA)) zs/\pss.length=ws.length/\(∀ ps∈pss,ps.length=n.toNat/\∀ y∈ps,lY y) /\
 ∀ p xs H',aD H H'->H' p=some (.lst xs)->(∀ z∈xs,ItE K 9 H' z)->Q (.ref p) H'
theorem rC:FnScope ["book", "weights", "shares", "found", "at", "row", "hand", "whole", "first"] ["book", "weights", "shares"] (aI yZ):=⟨rfl,rfl,rfl,by decide +kernel,rfl,by decide +kernel,by decide +kernel⟩
set_option maxHeartbeats 4000000 in
theorem aGm (G:Fn K mg "_law_aall" yZ ["book", "weights", "shares"] f fd) (B:Bl mg) (GBe:Fn K mg "_law_abent_rows" aA4 ["book", "at", "row"] fB dB) (OBe:FnOk P w K mg base CX0 3 fB dB ["book", "at", "row"] (aAE K)):FnOk P w K mg base CX0 4 f fd ["book", "weights", "shares"] (aDU K):=by
 refine G.fn.ok rC (fun vs H Q E h=>?_) (fun cdv A outer s H vs Q E hr h=>?_)
 ·obtain ⟨x,wp,sp,zs,n,ws,wt,pss,rfl,_⟩:=h
  rfl
 ·obtain ⟨x,wp,sp,zs,n,ws,wt,pss,rfl,hx,hbk,hn4,hm4,hwk,hwp,hsp,hzs,hpl,hT,k⟩:=h
  have r3:Room 3 _:=hr
  refine ⟨_,(aE (aS (i:=3) rC.nd rfl (Or.inl rfl) (cI (aA (pv 2) (aA (cI aC) (aA (aU hG (pv 2) (cI (aA (aU (aAY (K:=K) rfl) (bG (aA (bG (aA aG (aA aG aC))) aC)) (aT (bT (K:=K) rfl) (pv 0) aG (fun _ _=>rfl))) aC))) (aA (aDQ (K:=K) rfl (pv 2) (oK lE aG)) aC))))))
  (aE (cU PassesOwn.never rfl (cT rfl B.range (aA (aQ aV rfl B.len fJ (aA (pv 2) aC)) aC)) (aM (i:=4) rC.nd rfl (Or.inr rfl))
   (aE (cU PassesOwn.never rfl (cN (bD GBe OBe r3 rfl (aA (pv 0) (aA (pv 4) (aA (aT eD (pv 2) (pv 4) (fun _ _=>rfl)) aC))))) (aM (i:=5) rC.nd rfl (Or.inl rfl))
   (aJ (gM (kL PySem.F.plainAttrs_list PySem.F.slot_list_append PySem.F.type_list_append fY (pv 3) (aA (aU hG (aU hG (cP (gY (K:=K) rfl) (pv 2) eO (dX (pv 4))) (cI (aA (pv 5) aC))) (cP (gY (K:=K) rfl) (pv 2) (dX (aU eJ (pv 4) aG)) eO)) aC)))))
  (aE (aS (i:=3) rC.nd rfl (Or.inl rfl) (aU hG (pv 3) (cI (aA (aU hG (cP (gY (K:=K) rfl) (pv 2) eO (dX (pv 4))) (cP (gY (K:=K) rfl) (pv 2) (dX (aU eJ (pv 4) aG)) eO)) (aA (aU hG (cP (gY (K:=K) rfl) (pv 2) eO (dX (aU eJ (pv 4) aG))) (cP (gY (K:=K) rfl) (pv 2) (dX (pv 4)) eO)) aC)))))
  (aJ (cU PassesOwn.never rfl (gC (aT (bT (K:=K) rfl) (aT (bT (K:=K) rfl) (pv 0) aG (fun _ _=>rfl)) (pv 4) (fun _ _=>rfl))) (aM (i:=6) rC.nd rfl (Or.inr rfl))
   (aE (eX (i:=7) (own:=["other"]) (fr:=[4,6,1]) (frn:=["at", "hand", "weights"]) (aW (aI yZ) ["book", "weights", "shares", "found", "at", "row", "hand", "whole", "first"] rfl rfl (by decide +kernel)) rfl rC.nd rfl rfl rfl (cT rfl B.range (aA (aT (bT (K:=K) rfl) (pv 0) aG (fun _ _=>rfl)) aC))
    (fun _ _ _ _=>(aM (i:=0) (show (["other", "at", "hand", "weights"]:List Str).Nodup by decide +kernel) rfl (Or.inl rfl))) (fun _ _ _ _=>cJ)
    (fun _ _ _ _=>(bG (aA (aU cY (aT (bT (K:=K) rfl) (pv 3) (pv 1) (fun _ _=>rfl)) (cE aBA rfl B.int aC2 (aA (gB xV (pv 0) (pv 2) (bK _)) aC))) (aA aG aC)))))
  (aE (gM (kL PySem.F.plainAttrs_list PySem.F.slot_list_append PySem.F.type_list_append fY (pv 3) (aA (aU hG (aU hG (cP (gY (K:=K) rfl) (pv 2) eO (dX (pv 4))) (cI (aA (cE (gF (K:=K) rfl) rfl B.tuple dY (aA (pv 7) aC)) aC))) (cP (gY (K:=K) rfl) (pv 2) (dX (aU eJ (pv 4) aG)) eO)) aC)))
  (aE (aS (i:=8) rC.nd rfl (Or.inl rfl) (aT (bT (K:=K) rfl) (aT (bT (K:=K) rfl) (aT (bT (K:=K) rfl) (pv 0) aG (fun _ _=>rfl)) (pv 4) (fun _ _=>rfl)) aG (fun _ _=>rfl)))
  (aJ (cX (bF mC (pv 6) (pv 8) (bK _))
   (aE (lD (bG (aA (aU cY aG (aT (bT (K:=K) rfl) (pv 1) (pv 4) (fun _ _=>rfl))) (aA aG aC))) (rY (pv 7) (pv 6) kK))
  (aE (lD (bG (aA (aU cY aG (aT (bT (K:=K) rfl) (pv 1) (pv 4) (fun _ _=>rfl))) (aA aG aC))) (rY (pv 7) (pv 8) kK))
  (aJ (gM (kL PySem.F.plainAttrs_list PySem.F.slot_list_append PySem.F.type_list_append fY (pv 3) (aA (aU hG (aU hG (cP (gY (K:=K) rfl) (pv 2) eO (dX (pv 4))) (cI (aA (cE (gF (K:=K) rfl) rfl B.tuple dY (aA (pv 7) aC)) aC))) (cP (gY (K:=K) rfl) (pv 2) (dX (aU eJ (pv 4) aG)) eO)) aC))))))
   bM))))))))))
  (aJ (aR (pv 3))))),?_⟩
  obtain ⟨a,b,ys,rfl,ha,hb,hys⟩:=fM hx
  have hly:=aF hys
  rw [Qb] at hly
  obtain ⟨hn1,hn6,h12,hws⟩:=cC hbk
  have hzl:=aF hzs
  rw [Qb,hpl] at hzl
  have hsh:∀ {S:List Addr} {H':Hp},aD H H'->Fx S H'->(∀ v∈S,H v=none)->IV K S 4 H' (.ref sp):=fun {S H'} s' f' n'=>by
   have kv:aD H (Vw S H'):=fun b o hbo=>by rw [Vw.out (fun z=>by rw [n' b z] at hbo; cases hbo)]; exact s' _ _ hbo
   exact ⟨sp,zs,_,rfl,kv _ _ hsp,kv.denAll _ _ hzs,by rw [Qb]; omega,fun e he=>by
    obtain ⟨ps,hps,rfl⟩:=Qz.mp he
    exact pM fun e he=>by obtain ⟨y,hy,rfl⟩:=Qz.mp he; exact ((hT ps hps).2 y hy).fr⟩
  have R0:IV K [] 4 H (.ref sp):=hsh (aD.refl _) Fx.nil (by simp)
  have hnn:((n.toNat:Nat):Int)=n:=by omega
  refine qO (aBq (S:=[]) (E:=IV K [] 9) (n:=4) Fx.nil ?_ (fun fl xs H1 s1 hfl hxl hxs=>?_))
  ·refine lB (Iv.le (iP rfl R0)) ?_
   refine lB (Iv.le aGk) ?_
   refine lB (Iv.le (lV (m:=4) (n:=1) (iP rfl R0) (xP ?_))) ?_
   ·intro H1 s1 f1 Q1 k1
    refine ⟨sz2 _ _,fun p1 hp1=>⟨sz1 _,fun p2 hp2=>⟨_,rfl,a,[.int n,.ref b],0,.int n,rfl,rfl,?_,rfl,p2,n.toNat,_,rfl,by rw [hnn],SqT.of aB,by omega,by simp,fun q H' s' hq=>?_⟩⟩⟩
    ·exact (s1.trans ((aD.new hp1).trans (aD.new hp2))).seqT ha
    ·have s2:=(aD.new (o:=.tup [.int 0,.int 1]) hp1).trans ((aD.new (o:=.tup [.ref p1]) hp2).trans s')
     have g1:SqT K H' p1 [.int 0,.int 1]:=((aD.new hp2).trans s').seqT (SqT.of aB)
     exact k1 _ _ s2 ⟨_,bB.mpr ⟨q,_,rfl,Vw.nil.seqT hq,sO (ds:=[.tuple [.int 0,.int 1]]) (aH.mpr ⟨_,_,rfl,(bE (x:=(0,1))).mpr ⟨p1,rfl,Vw.nil.seqT g1⟩,aL.mpr rfl⟩) n.toNat⟩,aDT⟩
   exact lB (Iv.le (aGl (iP rfl R0) wB)) aBp
  have I0:LG K [] H fl 4 (upd H1 fl (.lst xs)):=LG.begin s1 hfl (by omega) hxs
  have hf:H fl=none:=s1.free hfl
  generalize upd H1 fl (.lst xs)=H2 at I0
  refine ⟨_,rfl,sp,_,rfl,.inl (SqL.of (I0.same _ _ hsp)),_,rfl,by omega,by omega,jK (lo:=0) (n:=(((zs.length:Nat):Int)).toNat) (fun i σ H3=>∃ fl v4 v5 v6 v7 v8,σ = [some (.ref a),some (.ref wp),some (.ref sp),some (.ref fl),v4,v5,v6,v7,v8]/\H fl=none/\LG K [] H fl (4+220*i) H3) ⟨fl,_,_,_,_,_,rfl,hf,I0⟩ ?_ ?_⟩
  ·rintro i σ H3 hi ⟨fl,v4,v5,v6,v7,v8,rfl,hf,I3⟩
   have hiz:i < zs.length:=by omega
   have hzi:=Qc hiz
   generalize zs[i]=z at hzi
   obtain ⟨ps,hps,hpd⟩:=aY hzs hzi
   obtain ⟨rp,us,rfl,hrp,hus⟩:=bB.mp hpd
   obtain ⟨hp1,hp2⟩:=hT ps (Qe hps)
   have hyi:=Qc (show i < ys.length by omega)
   generalize ys[i]'(by omega)=yv at hyi
   obtain ⟨l,hl1,hl2⟩:=aY hys hyi
   obtain ⟨al,rfl,hal⟩:=bV.mp hl2
   have hwt:=Qc (show i < wt.length by rw [hwk.1]; omega)
   generalize wt[i]'(by rw [hwk.1]; omega)=xw at hwt
   obtain ⟨w0,w1⟩:=hwk.2 xw (Qe hwt)
   obtain ⟨c1,c2,c3⟩:=hJ (hws l (Qe hl1))
   have hl6:=hU (by omega) c2 c3
   have nS:∀ v∈[fl],H v=none:=fun v hv=>by rw [Qi.mp hv]; exact hf
   have mS:fl∈[fl]:=Qi.mpr rfl
   have hwat:atI (wt.map V.int) (i:Int)=some (.int xw):=bX (by rw [Qh,hwt]; rfl)
   dsimp only [cH]
   rw [Xv]
   refine qP ⟨_,rfl,_,rfl,_,rfl,_,rfl,sp,_,_,_,rfl,rfl,SqL.of (I3.same _ _ hsp),bX hzi,_,i,rp,us,n,ws,l,ps,[fl],rfl,I3.fx,I3.same.den _ _ hx,hbk,hn4,hl1,I3.same.seqT hrp,I3.same.denAll _ _ hus,hp1,hp2,fun bp rows H4 s4 nbp hbp hbl hrows=>?_⟩
   have I4:=I3.next s4 (Qg _)
   have nfb:bp≠fl:=fun e=>by
    obtain ⟨xs,hh,_⟩:=I3.has
    rw [e,hh] at nbp; cases nbp
   refine ⟨bp,rfl,⟨_,SqL.of hbp⟩,iB (K:=K) (a:=bp) (xs:=rows) (fun m σ H5=>(∃ v5 v6 v7 v8,σ = [some (.ref a),some (.ref wp),some (.ref sp),some (.ref fl),some (.int i),v5,v6,v7,v8])/\LG K [] H fl (4+220*i+m) H5/\H5 bp=some (.lst rows)/\∀ z∈rows,DeP K RowB [fl] H5 z) ⟨⟨_,_,_,_,rfl⟩,I4,hbp,fun z hz=>(hrows z hz).keep Vw.less⟩ (fun m σ H5 _ ⟨_,_,g,_⟩=>SqL.of g) ?_ ?_⟩
   ·rintro m z σ H5 hz ⟨⟨v5,v6,v7,v8,rfl⟩,I5,hb5,hr5⟩
    have hm:m < rows.length:=(Qd.mp hz).1
    have R5:=hsh I5.same I5.fx nS
    dsimp only [cH]
    refine xQ hf I5 (by omega) rfl (lV (m:=5) (n:=4) (lV (m:=4) (n:=1) (nT (iP rfl R5) dM (cR (eA rfl ⟨_,rfl⟩))) (xP (eA (R:=DeP K RowB [fl]) rfl (hr5 z (Qe hz))))) (nT (iP rfl R5) (cR (mI (eA rfl ⟨_,rfl⟩) lH)) dM)) fun H6 b6 I6=>?_
    exact ⟨⟨_,_,_,_,rfl⟩,I6,b6 _ _ nfb hb5,fun z hz=>(hr5 z hz).keep (But.vw b6 mS)⟩
   ·rintro σ H5 ⟨⟨v5,v6,v7,v8,rfl⟩,I5',_,_⟩
    have I5:LG K [] H fl (4+220*i+200) H5:=I5'.next (aD.refl _) (by omega)
    have R5:=hsh I5.same I5.fx nS
    dsimp only
    refine qO ⟨_,rfl,aBq (S:=[fl]) (E:=IV K [fl] 9) (n:=2) I5.fx ?_ (fun p2 xs2 H6 s6 hp2' hxl2 hxs2=>?_)⟩
    ·refine lB (Iv.le (lV (m:=4) (n:=4) (nT (iP rfl R5) dM (cR (eA rfl ⟨_,rfl⟩))) (nT (iP rfl R5) (cR (mI (eA rfl ⟨_,rfl⟩) lH)) dM))) ?_
     exact lB (Iv.le (lV (m:=4) (n:=4) (nT (iP rfl R5) dM (cR (mI (eA rfl ⟨_,rfl⟩) lH))) (nT (iP rfl R5) (cR (eA rfl ⟨_,rfl⟩)) dM))) aBp
    have s7:=s6.trans (aD.new (o:=.lst xs2) hp2')
    have e7:upd H6 p2 (.lst xs2) p2=some (.lst xs2):=aB
    have hx7:∀ x∈xs2,IV K [fl] 9 (upd H6 p2 (.lst xs2)) x:=fun x hx=>(hxs2 x hx).mo (Vw.same (aD.new hp2'))
    generalize upd H6 p2 (.lst xs2)=H7 at s7 e7 hx7 ⊢
    obtain ⟨xs,hx5,hxl5,_⟩:=I5.has
    refine ⟨fl,p2,xs,xs2,rfl,rfl,s7 _ _ hx5,e7,by rw [sizeLine_eq]; omega,fun r hr=>?_⟩
    obtain ⟨xs',e',_,I8⟩:=I5.two s7 hx7 hr
    rw [s7 _ _ hx5] at e'
    cases e'
    rw [hxl2] at I8
    have hf8:H r=none:=(I5.same.trans s7).free hr
    generalize upd H7 r (.lst (xs++xs2))=H8 at I8 ⊢
    clear I5 I5' R5 hf nS mS nfb I4 I3 hbp hrows nbp hxs2 hx7 e7 s7 hx5 hxl5 hr s6 hp2'
    have nS:∀ v∈[r],H v=none:=fun v hv=>by rw [Qi.mp hv]; exact hf8
    refine ⟨_,rfl,a,_,1,.ref b,rfl,rfl,I8.same.seqT ha,rfl,_,rfl,b,_,i,.ref al,rfl,rfl,I8.same.seqT hb,bX hyi,al,rfl,⟨_,I8.same.seqT hal⟩,oJ (K:=K) (a:=al) (xs:=l.map V.int) (fun m σ H9=>(∃ v5 v6 v7 v8,σ = [some (.ref a),some (.ref wp),some (.ref sp),some (.ref r),some (.int i),v5,v6,v7,v8])/\LG K [] H r (4+220*i+200+2+2*m) H9) ⟨⟨_,_,_,_,rfl⟩,I8⟩ (fun m σ H9 _ ⟨_,I9⟩=>I9.same.seqT hal) ?_ ?_⟩
    ·rintro m hv σ H9 hhv ⟨⟨v5,v6,v7,v8,rfl⟩,I9⟩
     obtain ⟨h,hh,rfl⟩:=iH hhv
     obtain ⟨h0,h1⟩:=c2 h (Qe hh)
     have hml:m < l.length:=(Qd.mp hh).1
     dsimp only [cH]
     refine ⟨_,rfl,a,_,0,.int n,rfl,rfl,I9.same.seqT ha,rfl,n,rfl,by omega,by omega,eY (lo:=0) (n:=n.toNat) (fun σ=>∃ v,σ = [v,some (.int i),some (.int h),some (.ref wp)]) (fun j cs H10=>aD H9 H10/\aN K H10 ((((List.range n.toNat).take j).map (qQ xw h)).map bA) cs) (cA (by omega)) ⟨none,rfl⟩ ⟨aD.refl _,aL.mpr rfl⟩ ?_ ?_ ?_⟩
     ·rintro j cs H10 ⟨_,d⟩
      rw [aF d,Qb,Qb,Ja]
      exact Jv _ _
     ·rintro j cs σ H10 hj ⟨v,rfl⟩ ⟨s10,d10⟩ hz
      refine eL ?_
      have mk:tO xw (if decide ((0+(j:Int))=h) then 1 else 0):=⟨jI (Jy (show xw.natAbs<=99 by omega) (by decide)),jI (Jy (show _<=1 by split <;> decide) (by decide))⟩
      have ew:qQ xw h j=(xw*(if decide ((0+(j:Int))=h) then 1 else 0),1):=by unfold qQ; rw [Xv]
      rw [bH (Xc hj),Qr,Qr]
      have ed:decide (V.int (0+(j:Int))=V.int h)=decide ((0+(j:Int))=h):=by simp
      refine ⟨_,rfl,_,rfl,wp,_,(i:Int),.int xw,rfl,rfl,(I9.same.trans s10).seqT hwp,hwat,_,rfl,_,rfl,rfl,.inr ⟨_,rfl,xw,_,rfl,rfl,?_,sz2 _ _,fun p hp=>⟨hz,⟨_,rfl⟩,s10.trans (aD.new hp),aZ ((aD.new hp).denAll _ _ d10) (aH.mpr ⟨_,_,rfl,bE.mpr ⟨p,rfl,?_⟩,aL.mpr rfl⟩)⟩⟩⟩
      ·rw [ed]; exact mk
      ·rw [ew,<- ed]; exact SqT.of aB
     ·rintro cs H10 ⟨s10,d10⟩ wl hwl
      rw [Jt (by rw [Xk]; exact Qg _)] at d10
      dsimp only [cH]
      have I11:LG K [wl] H r (4+220*i+200+2+2*m) (upd H10 wl (.lst cs)):=I9.beside s10 hwl
      have e11:upd H10 wl (.lst cs) wl=some (.lst cs):=aB
      have d11:=(aD.new (o:=.lst cs) hwl).denAll _ _ d10
      have hw0:H wl=none:=(I9.same.trans s10).free hwl
      have nw:r≠wl:=fun e=>by
       obtain ⟨xs,hh,_⟩:=I9.has
       have:=s10 _ _ hh
       rw [e,hwl] at this; cases this
      generalize upd H10 wl (.lst cs)=H11 at I11 e11 d11 ⊢
      have nS2:∀ v∈[r,wl],H v=none:=fun v hv=>by
       rcases Qj.mp hv with rfl | hv
       ·exact hf8
       ·rw [Qi.mp hv]; exact hw0
      have hcl:=aF d11
      rw [Qb,Qb,Xk] at hcl
      have RW:∀ y∈(List.range n.toNat).map (qQ xw h),FrB (bA y):=fun y hy=>by
       obtain ⟨g,_,rfl⟩:=Qz.mp hy
       exact aCm w0 w1
      have R11:=hsh I11.same I11.fx nS2
      refine qP (xQ hf8 I11 (by omega) rfl (lV (m:=5) (n:=4) (lV (m:=4) (n:=1) (nT (iP rfl R11) dM (cR (eA rfl ⟨_,rfl⟩))) (xP (rB rfl e11 d11 RW))) (nT (iP rfl R11) (cR (mI (eA rfl ⟨_,rfl⟩) lH)) dM)) fun H12 b12 I12=>?_)
      have e12:=b12 _ _ (Ne.symm nw) e11
      have fr11:Fx [r] H11:=fun b hb=>I11.fx b (by rw [Qi.mp hb]; simp)
      have d12:=Vw.sub.denAll _ _ ((But.vw b12 (Qi.mpr rfl):aD (Vw [r] H11) (Vw [r] H12)).denAll _ _ (kY fr11 d11))
      obtain ⟨f0,hf0⟩:∃ f0,l[0]?=some f0:=by
       cases l with
       | nil=>exact absurd rfl c1
       | cons x r=>exact ⟨x,rfl⟩
      have hfat:atI (l.map V.int) 0=some (.int f0):=bX (j:=0) (by rw [Qh,hf0]; rfl)
      obtain ⟨f1,f2⟩:=c2 f0 (Qe hf0)
      have mkc:∀ c:Int,0<=c->c<=100->tO c xw:=fun c a b=>⟨jI (Jy (show c.natAbs<=100 by omega) (by decide)),jI (Jy (show xw.natAbs<=99 by omega) (by decide))⟩
      dsimp only
      refine qO ⟨_,rfl,a,_,1,.ref b,rfl,rfl,I12.same.seqT ha,rfl,_,rfl,b,_,i,.ref al,rfl,rfl,I12.same.seqT hb,bX hyi,al,_,0,.int f0,rfl,rfl,I12.same.seqT hal,hfat,?_⟩
      refine ⟨_,rfl,_,rfl,rfl,_,rfl,gD (fun c=>?_) (fun c=>?_)⟩
      ·refine qP ⟨_,rfl,_,rfl,wp,_,i,.int xw,rfl,rfl,I12.same.seqT hwp,hwat,33,xw,rfl,rfl,mkc 33 (by decide) (by decide),sz2 _ _,fun p1 hp1=>?_⟩
       have s13:=aD.new (o:=.tup [.int (33*xw),.int 100]) hp1
       have I13:=I12.next s13 (Qg _)
       have e13:=s13 _ _ e12
       have d13:=s13.denAll _ _ d12
       have g13:SqT K (upd H12 p1 (.tup [.int (33*xw),.int 100])) p1 [.int (33*xw),.int 100]:=SqT.of aB
       generalize upd H12 p1 (.tup [.int (33*xw),.int 100])=H13 at s13 I13 e13 d13 g13 ⊢
       have ixh:ixN cs.length h=some h.toNat:=by unfold ixN; rw [if_pos h0,if_pos (by omega)]
       refine ⟨_,rfl,_,rfl,wl,cs,h,h.toNat,rfl,rfl,e13,ixh,?_⟩
       have I14:=I13.write (cs:=cs.set h.toNat (.ref p1)) hw0 nw
       have d14:=aDR (y:=(33*xw,100)) e13 d13 g13 h.toNat
       have e14:upd H13 wl (.lst (cs.set h.toNat (.ref p1))) wl=some (.lst (cs.set h.toNat (.ref p1))):=aB
       generalize upd H13 wl (.lst (cs.set h.toNat (.ref p1)))=H14 at I14 d14 e14 ⊢
       dsimp only
       refine qP ⟨_,rfl,_,rfl,wp,_,i,.int xw,rfl,rfl,I14.same.seqT hwp,hwat,67,xw,rfl,rfl,mkc 67 (by decide) (by decide),sz2 _ _,fun p2' hp2''=>?_⟩
       have s15:=aD.new (o:=.tup [.int (67*xw),.int 100]) hp2''
       have I15:=I14.next s15 (Qg _)
       have e15:=s15 _ _ e14
       have d15:=s15.denAll _ _ d14
       have g15:SqT K (upd H14 p2' (.tup [.int (67*xw),.int 100])) p2' [.int (67*xw),.int 100]:=SqT.of aB
       generalize upd H14 p2' (.tup [.int (67*xw),.int 100])=H15 at s15 I15 e15 d15 g15 ⊢
       have ixf:ixN (cs.set h.toNat (.ref p1)).length f0=some f0.toNat:=by unfold ixN; rw [if_pos f1,if_pos (by rw [Xs]; omega)]
       refine ⟨_,rfl,_,rfl,wl,_,f0,f0.toNat,rfl,rfl,e15,ixf,?_⟩
       have I16:=I15.write (cs:=(cs.set h.toNat (.ref p1)).set f0.toNat (.ref p2')) hw0 nw
       have d16:=aDR (y:=(67*xw,100)) e15 d15 g15 f0.toNat
       have e16:upd H15 wl (.lst ((cs.set h.toNat (.ref p1)).set f0.toNat (.ref p2'))) wl=some (.lst ((cs.set h.toNat (.ref p1)).set f0.toNat (.ref p2'))):=aB
       generalize upd H15 wl (.lst ((cs.set h.toNat (.ref p1)).set f0.toNat (.ref p2')))=H16 at I16 d16 e16 ⊢
       dsimp only
       have R16:=hsh I16.same I16.fx nS2
       have RW2:=aDS (j:=f0.toNat) (aDS (j:=h.toNat) RW (aBr 33 (by decide) w0 w1)) (aBr 67 (by decide) w0 w1)
       exact xQ hf8 I16 (by omega) rfl (lV (m:=5) (n:=4) (lV (m:=4) (n:=1) (nT (iP rfl R16) dM (cR (eA rfl ⟨_,rfl⟩))) (xP (rB rfl e16 d16 RW2))) (nT (iP rfl R16) (cR (mI (eA rfl ⟨_,rfl⟩) lH)) dM)) fun H17 b17 I17=>⟨⟨_,_,_,_,rfl⟩,I17.alone (by omega)⟩
      ·exact ⟨⟨_,_,_,_,rfl⟩,I12.alone (by omega)⟩
    ·rintro σ H9 ⟨⟨v5,v6,v7,v8,rfl⟩,I9⟩
     exact ⟨r,_,_,_,_,_,rfl,hf8,I9.next (aD.refl _) (by rw [Qb]; omega)⟩
  ·rintro σ H3 ⟨fl,v4,v5,v6,v7,v8,rfl,hf,I3⟩
   obtain ⟨xs3,h1,h2,h3⟩:=I3.has
   exact ⟨_,rfl,k fl xs3 H3 I3.same h1 fun z hz=>(h3 z hz).mo Vw.sub⟩
theorem aDV {t:Addr} {o:HO} (h:H t=none) (b:But t (upd H t o) H'):aD H H':=fun c u e=>by
 have n:c≠t:=fun z=>by rw [z,h] at e; cases e
 exact b c u n (by rw [aK n]; exact e)
theorem aE8 {bs:cW} (T:Parts n ws wt bs hl) (hw:tV ws wt) {i:Nat} (hi:i < ws.length) {h:Int} (hh:h∈bN n):lY (jC (hl i h,60)):=by
 have h1:hl i h<=aO ((bN n).map (hl i)):=kS (f:=hl i) (fun x _=>T.nn i x) hh
 rw [T.rows i hi] at h1
 have h2:wt.getD i 0<=99:=by
  have hwt:i < wt.length:=by rw [hw.1]; exact hi
  rw [Jd,Qc hwt]
  exact (hw.2 _ (Zj hwt)).2
 have h3:=T.nn i h
 have p1:=pC (hl i h) (show (0:Int) < 60 by decide)
 have p2:=rT (a:=hl i h) (show (0:Int) < 60 by decide)
 have p3:=rR h3 (show (0:Int) < 60 by decide)
 have p4:=rS h3 (show (0:Int) < 60 by decide)
 exact ⟨p3,by show mQ (hl i h) 60<=_; omega,p1,p2⟩
theorem aGn (a b:Bool):Wb 1 (.list [.bool a,.bool b]):=xJ (wb2 (nJ _) (nJ _))
def aBs (K:PySem.W.Frag):Sp:=fun vs H Q _=>∃ (a:Addr) (ns:List Int),vs = [.ref a]/\SqL K H a (ns.map V.int)/\∀ H',Q (.bl true) H'
theorem rD:FnScope ["script", "start", "tape", "book", "weights", "one", "handed", "told"] ["script"] (aI aFY):=⟨rfl,rfl,rfl,by decide +kernel,rfl,by decide +kernel,by decide +kernel⟩
set_option maxHeartbeats 8000000 in
theorem aGo {fB2 fWt f1 f2 f3 f4:Addr} {dB2 dWt d1 d2 d3 d4:FuncData} (G:Fn K mg "law" aFY ["script"] f fd) (B:Bl mg) (GTp:Fn K mg "_law_atape" aA2 ["script", "k"] fT dT) (OTp:FnOk P w K mg base CX0 2 fT dT ["script", "k"] (aDb K)) (GB:Fn K mg "_law_abook" tH ["tape", "hands", "works"] fB2 dB2) (OB:FnOk P w K mg base CX0 2 fB2 dB2 ["tape", "hands", "works"] (aBa K)) (GWt:Fn K mg "_law_aweights" aC3 ["tape", "many"] fWt dWt) (OWt:FnOk P w K mg base CX0 2 fWt dWt ["tape", "many"] (aFk K)) (GIp:Fn K mg "in_parts" gT ["book", "weights"] fI dI) (OIp:FnOk P w K mg base CX0 9 fI dI ["book", "weights"] (qN K)) (GAa:Fn K mg "_law_aall" yZ ["book", "weights", "shares"] fA dA) (OAa:FnOk P w K mg base CX0 4 fA dA ["book", "weights", "shares"] (aDU K)) (GAs:Fn K mg "are_shares" qG ["book", "weights", "shares"] f1 d1) (OAs:FnOk P w K mg base CX0 7 f1 d1 ["book", "weights", "shares"] (iI K shB)) (GAl:Fn K mg "are_level" mL ["book", "weights", "shares"] f2 d2) (OAl:FnOk P w K mg base CX0 8 f2 d2 ["book", "weights", "shares"] (iI K lvB)) (GLs:Fn K mg "_law_aare_shares" lL ["book", "weights", "shares"] f3 d3) (OLs:FnOk P w K mg base CX0 3 f3 d3 ["book", "weights", "shares"] (iI K shB)) (GLv:Fn K mg "_law_aare_level" oX ["book", "weights", "shares"] f4 d4) (OLv:FnOk P w K mg base CX0 4 f4 d4 ["book", "weights", "shares"] (iI K lvB)):FnOk P w K mg base CX0 10 f fd ["script"] (aBs K):=by
 refine G.fn.ok rD (fun vs H Q E h=>?_) (fun cdv A outer s H vs Q E hr h=>?_)
 ·obtain ⟨a,ns,rfl,_⟩:=h
  rfl
 ·obtain ⟨a,ns,rfl,hns,k⟩:=h
  have r2:Room 2 _:=hr.mono (by decide)
  have r3:Room 3 _:=hr.mono (by decide)
  have r4:Room 4 _:=hr.mono (by decide)
  have r7:Room 7 _:=hr.mono (by decide)
  have r8:Room 8 _:=hr.mono (by decide)
  have r9:Room 9 _:=hr
  refine ⟨_,(aE (cU PassesOwn.never rfl (aBx rfl B.range (aA aG (aA (aQ (aBy rfl) rfl B.max aG1 (aA aG (aA (aQ (aBz rfl) rfl B.min aFe (aA aG (aA (aQ aV rfl B.len fJ (aA (pv 0) aC)) aC))) aC))) aC))) (aM (i:=1) rD.nd rfl (Or.inl rfl))
   (aE (aS (i:=2) rD.nd rfl (Or.inl rfl) (bD GTp OTp r2 rfl (aA (pv 0) (aA (pv 1) aC))))
  (aE (aS (i:=3) rD.nd rfl (Or.inl rfl) (bD GB OB r2 rfl (aA (pv 2) (aA aG (aA aG aC)))))
  (aE (aS (i:=4) rD.nd rfl (Or.inl rfl) (bD GWt OWt r2 rfl (aA (pv 2) (aA (aQ aV rfl B.len fJ (aA (aT bO (pv 3) aG (fun _ _=>rfl)) aC)) aC))))
  (aJ (cU PassesOwn.never rfl (cN (bD GAa OAa r4 rfl (aA (pv 3) (aA (pv 4) (aA (aT bO (bD GIp OIp r9 rfl (aA (pv 3) (aA (pv 4) aC))) aG (fun _ _=>rfl)) aC))))) (aM (i:=5) rD.nd rfl (Or.inl rfl))
   (aE (aS (i:=6) rD.nd rfl (Or.inl rfl) (cE lF rfl B.list qC (aA (pv 5) aC)))
  (aE (aS (i:=7) rD.nd rfl (Or.inl rfl) (cI (aA (bD GAs OAs r7 rfl (aA (pv 3) (aA (pv 4) (aA (pv 6) aC)))) (aA (bD GAl OAl r8 rfl (aA (pv 3) (aA (pv 4) (aA (pv 6) aC)))) aC))))
  (aE (cX (PW.pt (iS (dJ (cL (aQ iQ rfl B.isinstance jR (aA (aT eD (pv 7) aG (fun _ _=>rfl)) (aA (eW (v:=.ty "bool") rfl B.bool wO rfl) aC))))) (iS (dJ (cL (aQ iQ rfl B.isinstance jR (aA (aT eD (pv 7) aG (fun _ _=>rfl)) (aA (eW (v:=.ty "bool") rfl B.bool wO rfl) aC))))) (jA (bF (sJ hr.u64) (pv 6) (pv 5) (bK _))))))
   (aJ (aR dG))
   bM)
  (aJ (cX (bF (sJ hr.u64) (pv 7) (cI (aA (bD GLs OLs r3 rfl (aA (pv 3) (aA (pv 4) (aA (pv 5) aC)))) (aA (bD GLv OLv r4 rfl (aA (pv 3) (aA (pv 4) (aA (pv 5) aC)))) aC))) (bK _))
   (aJ (aR dG))
   bM)))))))))))
  (aJ (aR dG))),?_⟩
  have hM:∀ m:Int,0<=m->0<=(if (if m < 2 then m else 2) > 1 then (if m < 2 then m else 2) else 1)/\(if (if m < 2 then m else 2) > 1 then (if m < 2 then m else 2) else 1)<=2:=fun m hm=>by split <;> split <;> omega
  have hM':=hM ((ns.map V.int).length:Int) (by omega)
  refine ⟨_,rfl,a,_,rfl,.inl hns,_,_,rfl,_,_,rfl,0,_,rfl,⟨by decide,by decide,by omega,by omega⟩,jK (lo:=0) (fun i σ H1=>(∃ v1 v2 v3 v4 v5 v6 v7,σ = [some (.ref a),v1,v2,v3,v4,v5,v6,v7])/\SqL K H1 a (ns.map V.int)) ⟨⟨_,_,_,_,_,_,_,rfl⟩,hns⟩ ?_ ?_⟩
  ·rintro i σ H1 hi ⟨⟨v1,v2,v3,v4,v5,v6,v7,rfl⟩,hs1⟩
   refine ⟨_,rfl,_,rfl,a,ns,i,by rw [Xv]; rfl,hs1,fun t n0 ht=>?_⟩
   have bS:∀ {H':Hp},But t (upd H1 t (.lst [.int n0])) H'->aD H1 H':=fun b=>aDV ht b
   have T2:iX K (upd H1 t (.lst [.int n0])) t a ns:=⟨_,aB⟩
   generalize upd H1 t (.lst [.int n0])=H2 at T2 bS ⊢
   dsimp only [cH]
   refine ⟨_,rfl,t,a,ns,4,4,rfl,T2,by decide,by decide,by decide,by decide,fun n ws bk H5 hb hn hlen b5 T5 hbk=>?_⟩
   dsimp only [cH]
   obtain ⟨c,bb,ys,e,hc,hb1,hys1⟩:=fM hbk
   cases e
   have hly:=aF hys1
   rw [Qb] at hly
   obtain ⟨hn1,hn6,h12,hwk⟩:=cC hb
   refine ⟨_,rfl,_,rfl,bk,_,1,.ref bb,rfl,rfl,hc,rfl,bb,ys,rfl,.inr hb1,t,a,ns,ws.length,by rw [hly]; rfl,T5,by omega,fun wt wp H7 hwl hwb b7 T7 hwp=>?_⟩
   dsimp only [cH]
   have hc7:=T5.seqT b7 hc
   have hb7:=T5.seqT b7 hb1
   have hys7:=T5.denAll b7 (gG _ iW ws) hys1
   have hbk7:Den K H7 (eM n ws) (.ref bk):=vJ hc7 hb7 hys7
   have hwt:tV ws wt:=⟨hwl,hwb⟩
   have sA:aD H1 H7:=bS (b5.trans b7)
   refine ⟨_,rfl,_,rfl,_,rfl,_,rfl,_,n,ws,wp,wt,rfl,hbk7,hb,hwp,hwt,fun p lp us sp zs bs hl H8 s8 hp hlp dlp nsp esp dsp hbl PT=>?_⟩
   refine ⟨p,_,1,.ref sp,rfl,rfl,hp,rfl,_,wp,sp,zs,n,ws,wt,(List.range ws.length).map fun w=>(bN n.toNat).map fun h=>jC (hl w h,60),rfl,s8.den _ _ hbk7,hb,by omega,by omega,hwt,s8.seqT hwp,esp,?_,by rw [Qb,Xk],fun ps hps=>?_,fun ip items H9 s9 hip hit=>?_⟩
   ·rw [Zb]; exact dsp
   ·obtain ⟨w',hw',rfl⟩:=Qz.mp hps
    refine ⟨by rw [Qb,cS],fun y hy=>?_⟩
    obtain ⟨h,hh,rfl⟩:=Qz.mp hy
    exact aE8 PT hwt (Js.mp hw') hh
   have s79:=s8.trans s9
   refine ⟨ip,rfl,⟨_,SqL.of hip⟩,iB (K:=K) (a:=ip) (xs:=items) (fun j σ H10=>(∃ v5 v6 v7,σ = [some (.ref a),some (.int (0+(i:Int))),some (.ref t),some (.ref bk),some (.ref wp),v5,v6,v7])/\aD H9 H10) ⟨⟨_,_,_,rfl⟩,aD.refl _⟩ (fun j σ H10 _ ⟨_,s10⟩=>SqL.of (s10 _ _ hip)) ?_ ?_⟩
   ·rintro j z σ H10 hz ⟨⟨v5,v6,v7,rfl⟩,s10⟩
    obtain ⟨q,zs',ds,rfl,hq,hdd,_,hrows⟩:=(hit z (Qe hz)).mo s10
    have s710:=s79.trans s10
    dsimp only [cH]
    refine ⟨_,rfl,q,zs',rfl,.inl (SqL.of hq),fun hd hhd=>?_⟩
    have s11:=aD.new (o:=.lst zs') hhd
    have e11:upd H10 hd (.lst zs') hd=some (.lst zs'):=aB
    generalize upd H10 hd (.lst zs')=H11 at s11 e11 ⊢
    have s711:=s710.trans s11
    have S1:Itm K H11 hd zs' n ws wt ds:=⟨e11,s11.denAll _ _ hdd,hrows,hb,by omega,by omega,hwt⟩
    have S2:Itm K H11 q zs' n ws wt ds:=⟨s11 _ _ hq,s11.denAll _ _ hdd,hrows,hb,by omega,by omega,hwt⟩
    dsimp only [cH]
    refine ⟨_,rfl,_,rfl,_,rfl,_,wp,hd,zs',n,ws,wt,ds,rfl,s711.den _ _ hbk7,s711.seqT hwp,S1,fun H12 s12=>⟨_,rfl,_,rfl,_,rfl,_,wp,hd,zs',n,ws,wt,ds,rfl,(s711.trans s12).den _ _ hbk7,(s711.trans s12).seqT hwp,S1.same s12,fun H13 s13=>⟨sz2 _ _,fun tl htl=>?_⟩⟩⟩
    have s14:=s12.trans (s13.trans (aD.new (o:=.lst [.bl (shB n.toNat ws wt ds),.bl (lvB n.toNat ws wt ds)]) htl))
    have e14:upd H13 tl (.lst [.bl (shB n.toNat ws wt ds),.bl (lvB n.toNat ws wt ds)]) tl=some (.lst [.bl (shB n.toNat ws wt ds),.bl (lvB n.toNat ws wt ds)]):=aB
    generalize upd H13 tl (.lst [.bl (shB n.toNat ws wt ds),.bl (lvB n.toNat ws wt ds)])=H14 at s14 e14 ⊢
    dsimp only [cH]
    have W:Wb 3 (.list ds):=xJ fun d hd=>(hrows d hd).wb
    have W2:=aGn (shB n.toNat ws wt ds) (lvB n.toNat ws wt ds)
    have s1114:=s11.trans s14
    refine ⟨_,rfl,tl,_,0,.bl (shB n.toNat ws wt ds),rfl,rfl,SqL.of e14,rfl,.bl (shB n.toNat ws wt ds),.bl,rfl,(jP.mpr rfl:Den K H14 (.bool (shB n.toNat ws wt ds)) (.bl (shB n.toNat ws wt ds))).kd,_,rfl,gR ?_⟩
    refine ⟨_,rfl,tl,_,1,.bl (lvB n.toNat ws wt ds),rfl,rfl,SqL.of e14,rfl,.bl (lvB n.toNat ws wt ds),.bl,rfl,(jP.mpr rfl:Den K H14 (.bool (lvB n.toNat ws wt ds)) (.bl (lvB n.toNat ws wt ds))).kd,_,rfl,gR ?_⟩
    refine ⟨_,rfl,_,rfl,.list ds,.list ds,eF.mpr ⟨hd,zs',rfl,SqL.of (s14 _ _ e11),s1114.denAll _ _ hdd⟩,eF.mpr ⟨q,zs',rfl,SqL.of (s1114 _ _ hq),s1114.denAll _ _ hdd⟩,W.nd,W.nd,W.sh (by decide),W.sh (by decide),_,rfl,mX (by rw [W.eq]; rfl) ?_⟩
    have s714:=s711.trans s14
    refine ⟨_,rfl,_,rfl,_,rfl,_,rfl,_,wp,q,zs',n,ws,wt,ds,rfl,s714.den _ _ hbk7,s714.seqT hwp,S2.same s14,fun H15 s15=>⟨_,rfl,_,rfl,_,rfl,_,wp,q,zs',n,ws,wt,ds,rfl,(s714.trans s15).den _ _ hbk7,(s714.trans s15).seqT hwp,(S2.same s14).same s15,fun H16 s16=>⟨sz2 _ _,fun tp htp=>?_⟩⟩⟩
    have s17:=s15.trans (s16.trans (aD.new (o:=.lst [.bl (shB n.toNat ws wt ds),.bl (lvB n.toNat ws wt ds)]) htp))
    have dB:∀ H',aN K H' [.bool (shB n.toNat ws wt ds),.bool (lvB n.toNat ws wt ds)] [.bl (shB n.toNat ws wt ds),.bl (lvB n.toNat ws wt ds)]:=fun H'=>aH.mpr ⟨_,_,rfl,jP.mpr rfl,aH.mpr ⟨_,_,rfl,jP.mpr rfl,aL.mpr rfl⟩⟩
    refine ⟨.list [.bool (shB n.toNat ws wt ds),.bool (lvB n.toNat ws wt ds)],.list [.bool (shB n.toNat ws wt ds),.bool (lvB n.toNat ws wt ds)],eF.mpr ⟨tl,_,rfl,SqL.of (s17 _ _ e14),dB _⟩,eF.mpr ⟨tp,_,rfl,SqL.of aB,dB _⟩,W2.nd,W2.nd,W2.sh (by decide),W2.sh (by decide),_,rfl,mX (by rw [W2.eq]; rfl) ?_⟩
    exact ⟨⟨_,_,_,rfl⟩,s10.trans (s1114.trans s17)⟩
   ·rintro σ H10 ⟨⟨v5,v6,v7,rfl⟩,s10⟩
    exact ⟨⟨_,_,_,_,_,_,_,rfl⟩,(sA.trans (s79.trans s10)).seqL hs1⟩
  ·rintro σ H1 ⟨⟨v1,v2,v3,v4,v5,v6,v7,rfl⟩,hs1⟩
   exact k _
end Ab
namespace Ab
open PySem L2 PyProof.Rows
theorem bW (X:K.In h) (G:h.Ns mainGlobals mg) {kV:Value} (hb:∀ (kV doc pm:Value) (an:Option Addr) (cdv ct:Value) (us:List Value),us.length=ps.length->bindArgs (PySem.W.fnOf x x (mZ st) (gZ st) (aI st) .none kV doc pm an cdv ct) ⟨us,[]⟩=pure (ps.zip us)) (a:PySem.W.nsIn K mainGlobals x=some (some (.ref f))) (l:K.lookup f=some ⟨oc,od,.func (PySem.W.fnOf x x (mZ st) (gZ st) (aI st) .none kV doc pm an cdv ct),osl⟩) (c:PySem.W.codeIn K cdv x=true) (k:PySem.W.keepIn K (.ref f)=true) :
  ∃ f fd,Fn K mg x st ps f fd:=by
 have F:=aFO (st:=st) l c k
 exact ⟨f,_,F,PySem.W.mg_of X G a,k,F.binds hb⟩
theorem aHa (X:K.In h) (G:h.Ns mainGlobals mg) {t6 t12 t20 t21:Tok} (z0:PySem.W.nsIn K mainGlobals "isinstance" = some none) (z1:PySem.W.nsIn K mainGlobals "int" = some none) (z2:PySem.W.nsIn K mainGlobals "bool" = some none) (z3:PySem.W.nsIn K mainGlobals "tuple" = some none) (z4:PySem.W.nsIn K mainGlobals "list" = some none) (z5:PySem.W.nsIn K mainGlobals "len" = some none) (z6:PySem.W.nsIn K mainGlobals "all" = some none) (z7:PySem.W.nsIn K mainGlobals "zip" = some none) (z8:PySem.W.nsIn K mainGlobals "range" = some none) (z9:PySem.W.nsIn K mainGlobals "sorted" = some none) (z10:PySem.W.nsIn K mainGlobals "set" = some none) (z11:PySem.W.nsIn K mainGlobals "sum" = some none) (z12:PySem.W.nsIn K mainGlobals "repr" = some none) (z13:PySem.W.nsIn K mainGlobals "max" = some none) (z14:PySem.W.nsIn K mainGlobals "min" = some none) (z15:PySem.W.nsIn K mainGlobals "any" = some none) (z16:PySem.W.nsIn K mainGlobals "enumerate" = some none) (zA:PySem.W.nsIn K mainGlobals "MOST_HANDS" = some (some (.int 6 t6))) (zB:PySem.W.nsIn K mainGlobals "MOST_WORKS" = some (some (.int 12 t12))) (zK0:PySem.W.nsIn K mainGlobals "MOST_WEIGHT" = some (some (.int 99 t20))) (zK1:PySem.W.nsIn K mainGlobals "UNITS" = some (some (.int 60 t21))):Bl mg :=
 ⟨PySem.W.mg_none_of X G z0,PySem.W.mg_none_of X G z1,PySem.W.mg_none_of X G z2,PySem.W.mg_none_of X G z3,PySem.W.mg_none_of X G z4,PySem.W.mg_none_of X G z5,PySem.W.mg_none_of X G z6,PySem.W.mg_none_of X G z7,PySem.W.mg_none_of X G z8,PySem.W.mg_none_of X G z9,PySem.W.mg_none_of X G z10,PySem.W.mg_none_of X G z11,PySem.W.mg_none_of X G z12,PySem.W.mg_none_of X G z13,PySem.W.mg_none_of X G z14,PySem.W.mg_none_of X G z15,PySem.W.mg_none_of X G z16,⟨_,PySem.W.mg_of X G zA⟩,⟨_,PySem.W.mg_of X G zB⟩,⟨_,PySem.W.mg_of X G zK0⟩,⟨_,PySem.W.mg_of X G zK1⟩⟩
theorem aE9 {l:PySem.W.OpenLaw} {fa:Addr} (hfa:mg "law" = some (.ref fa)) (B:Bl mg) (hW:∃ f fd,Fn K mg "is_whole" nY ["thing"] f fd) (hH:∃ f fd,Fn K mg "are_hands" sZ ["thing"] f fd) (hKw:∃ f fd,Fn K mg "is_work" tD ["hands", "thing"] f fd) (hBP:∃ f fd,Fn K mg "is_book" tE ["thing"] f fd) (hNB:∃ f fd,Fn K mg "need_book" aAk ["book"] f fd) (hCM:∃ f fd,Fn K mg "common" rL ["a", "b"] f fd) (hLO:∃ f fd,Fn K mg "lowest" nC ["a", "b"] f fd) (hPL:∃ f fd,Fn K mg "plus" yX ["one", "other"] f fd) (hIL:∃ f fd,Fn K mg "is_less" aA0 ["one", "other"] f fd) (hFR:∃ f fd,Fn K mg "is_fraction" kQ ["thing"] f fd) (hTO:∃ f fd,Fn K mg "total" qD ["some"] f fd) (hAW:∃ f fd,Fn K mg "are_weights" tF ["book", "thing"] f fd) (hNW:∃ f fd,Fn K mg "need_weights" oT ["book", "weights"] f fd) (hWI:∃ f fd,Fn K mg "is_within" nD ["able", "some"] f fd) (hST:∃ f fd,Fn K mg "sets_of" yY ["hands"] f fd) (hHV:∃ f fd,Fn K mg "heaviest" kR ["hands", "rows"] f fd) (hBK:∃ f fd,Fn K mg "blocks" jG ["book", "weights"] f fd) (hRC:∃ f fd,Fn K mg "reached" oU ["rows", "first"] f fd) (hWY:∃ f fd,Fn K mg "way_to" wP ["found", "last"] f fd) (hHA:∃ f fd,Fn K mg "handing_parts" tG ["takers", "held", "many"] f fd) (hSP:∃ f fd,Fn K mg "spread" jX ["takers", "amounts", "rooms"] f fd) (hLL:∃ f fd,Fn K mg "least_loaded" jY ["able", "loads"] f fd) (hPA:∃ f fd,Fn K mg "part_loads" qE ["book", "weights"] f fd) (hIP:∃ f fd,Fn K mg "in_parts" gT ["book", "weights"] f fd) (hSR:∃ f fd,Fn K mg "is_share_row" qF ["hands", "able", "weight", "row"] f fd) (hSH:∃ f fd,Fn K mg "are_shares" qG ["book", "weights", "shares"] f fd) (hLV:∃ f fd,Fn K mg "are_level" mL ["book", "weights", "shares"] f fd) (hCE:∃ f fd,Fn K mg "_law_acell" aA1 ["script", "k"] f fd) (hTA:∃ f fd,Fn K mg "_law_atape" aA2 ["script", "k"] f fd) (hDG:∃ f fd,Fn K mg "_law_adigit" oV ["tape", "many"] f fd) (hAH:∃ f fd,Fn K mg "_law_awhole" rM ["found"] f fd) (hAL:∃ f fd,Fn K mg "_law_alow" aA3 ["a", "b"] f fd) (hSU:∃ f fd,Fn K mg "_law_asum" vI ["some"] f fd) (hNM:∃ f fd,Fn K mg "_law_ano_more" oW ["one", "other"] f fd) (hAB:∃ f fd,Fn K mg "_law_abook" tH ["tape", "hands", "works"] f fd) (hWT:∃ f fd,Fn K mg "_law_aweights" aC3 ["tape", "many"] f fd) (hAF:∃ f fd,Fn K mg "_law_afraction" wQ ["thing"] f fd) (hAS:∃ f fd,Fn K mg "_law_aare_shares" lL ["book", "weights", "shares"] f fd) (hOS:∃ f fd,Fn K mg "_law_aof_shares" nZ ["book", "shares"] f fd) (hAV:∃ f fd,Fn K mg "_law_aare_level" oX ["book", "weights", "shares"] f fd) (hBE:∃ f fd,Fn K mg "_law_abent_rows" aA4 ["book", "at", "row"] f fd) (hAA:∃ f fd,Fn K mg "_law_aall" yZ ["book", "weights", "shares"] f fd) (hLW:∃ f fd,Fn K mg "law" aFY ["script"] f fd)
  : ∃ fd:FuncData,(∀ (s:Shared) (v:Value),BindsTo s fd ⟨[v],[]⟩ [("script",v)])/\∀ base:Heap,K.In base->base.Ns mainGlobals mg->FnOk l.prog w K mg base CX0 10 fa fd ["script"] (aBs K):=by
 obtain ⟨fW,dW,W⟩:=hW
 obtain ⟨fH,dH,H⟩:=hH
 obtain ⟨fKw,dKw,Kw⟩:=hKw
 obtain ⟨fBP,dBP,BP⟩:=hBP
 obtain ⟨fNB,dNB,NB⟩:=hNB
 obtain ⟨fCM,dCM,CM⟩:=hCM
 obtain ⟨fLO,dLO,LO⟩:=hLO
 obtain ⟨fPL,dPL,PL⟩:=hPL
 obtain ⟨fIL,dIL,IL⟩:=hIL
 obtain ⟨fFR,dFR,FR⟩:=hFR
 obtain ⟨fTO,dTO,TO⟩:=hTO
 obtain ⟨fAW,dAW,AW⟩:=hAW
 obtain ⟨fNW,dNW,NW⟩:=hNW
 obtain ⟨fWI,dWI,WI⟩:=hWI
 obtain ⟨fST,dST,ST⟩:=hST
 obtain ⟨fHV,dHV,HV⟩:=hHV
 obtain ⟨fBK,dBK,BK⟩:=hBK
 obtain ⟨fRC,dRC,RC⟩:=hRC
 obtain ⟨fWY,dWY,WY⟩:=hWY
 obtain ⟨fHA,dHA,HA⟩:=hHA
 obtain ⟨fSP,dSP,SP⟩:=hSP
 obtain ⟨fLL,dLL,LL⟩:=hLL
 obtain ⟨fPA,dPA,PA⟩:=hPA
 obtain ⟨fIP,dIP,IP⟩:=hIP
 obtain ⟨fSR,dSR,SR⟩:=hSR
 obtain ⟨fSH,dSH,SH⟩:=hSH
 obtain ⟨fLV,dLV,LV⟩:=hLV
 obtain ⟨fCE,dCE,CE⟩:=hCE
 obtain ⟨fTA,dTA,TA⟩:=hTA
 obtain ⟨fDG,dDG,DG⟩:=hDG
 obtain ⟨fAH,dAH,AH⟩:=hAH
 obtain ⟨fAL,dAL,AL⟩:=hAL
 obtain ⟨fSU,dSU,SU⟩:=hSU
 obtain ⟨fNM,dNM,NM⟩:=hNM
 obtain ⟨fAB,dAB,AB⟩:=hAB
 obtain ⟨fWT,dWT,WT⟩:=hWT
 obtain ⟨fAF,dAF,AF⟩:=hAF
 obtain ⟨fAS,dAS,AS⟩:=hAS
 obtain ⟨fOS,dOS,OS⟩:=hOS
 obtain ⟨fAV,dAV,AV⟩:=hAV
 obtain ⟨fBE,dBE,BE⟩:=hBE
 obtain ⟨fAA,dAA,AA⟩:=hAA
 obtain ⟨fLW,dLW,LW⟩:=hLW
 have e:=hfa.symm.trans LW.mgx
 cases e
 have R:Pr K mg fW fH fKw fBP fNB dW dH dKw dBP dNB:=⟨W,H,Kw,BP,NB⟩
 refine ⟨dLW,fun s v=>?_,fun base _ _=>?_⟩
 ·obtain ⟨oc,od,kV,doc,pm,an,cdv,ct,osl,rfl,lk,hcd⟩:=LW.fn.ex
  exact .of_eq rfl
 ·have ODG:FnOk l.prog w K mg base CX0 1 fDG dDG ["tape", "many"] (rO K):=aDc DG B
  have OLO:FnOk l.prog w K mg base CX0 2 fLO dLO ["a", "b"] (iZ):=aB5 LO B CM
  have OPL:FnOk l.prog w K mg base CX0 3 fPL dPL ["one", "other"] (wX K):=aEz PL B LO OLO
  have OIL:FnOk l.prog w K mg base CX0 1 fIL dIL ["one", "other"] (aAq K):=aEA IL
  have OFR:FnOk l.prog w K mg base CX0 2 fFR dFR ["thing"] (vP K):=aET FR B R
  have OTT:FnOk l.prog w K mg base CX0 4 fTO dTO ["some"] (tQ K):=aB6 TO PL OPL
  have OTL:FnOk l.prog w K mg base CX0 4 fTO dTO ["some"] (tR K):=aB7 TO PL OPL
  have OAW:FnOk l.prog w K mg base CX0 5 fAW dAW ["book", "thing"] (xC K):=aDn AW B R
  have ONW:FnOk l.prog w K mg base CX0 6 fNW dNW ["book", "weights"] (pF K):=aCa NW AW OAW
  have OWI:FnOk l.prog w K mg base CX0 1 fWI dWI ["able", "some"] (pG K):=aCb WI B
  have OST:FnOk l.prog w K mg base CX0 1 fST dST ["hands"] (aAr K):=aEF ST B
  have OHV:FnOk l.prog w K mg base CX0 2 fHV dHV ["hands", "rows"] (aAs K):=aEG HV B ST OST WI OWI
  have OBK:FnOk l.prog w K mg base CX0 7 fBK dBK ["book", "weights"] (tY K):=aCc BK B NW ONW HV OHV LO OLO WI OWI
  have ORC:FnOk l.prog w K mg base CX0 1 fRC dRC ["rows", "first"] (qM K):=aAt RC B
  have OWY:FnOk l.prog w K mg base CX0 1 fWY dWY ["found", "last"] (xE K):=aDt WY B
  have OHA:FnOk l.prog w K mg base CX0 1 fHA dHA ["takers", "held", "many"] (xG K):=aDu HA B
  have OSP:FnOk l.prog w K mg base CX0 2 fSP dSP ["takers", "amounts", "rooms"] (tZ K):=aCd SP B RC ORC WY OWY HA OHA
  have OLL:FnOk l.prog w K mg base CX0 2 fLL dLL ["able", "loads"] (pJ K):=aCf LL B IL OIL
  have OPA:FnOk l.prog w K mg base CX0 8 fPA dPA ["book", "weights"] (xI K):=aDy PA B BK OBK
  have OIP:FnOk l.prog w K mg base CX0 9 fIP dIP ["book", "weights"] (qN K):=aAu IP B PA OPA LL OLL SP OSP LO OLO
  have OSR:FnOk l.prog w K mg base CX0 5 fSR dSR ["hands", "able", "weight", "row"] (xN K):=aDG SR B FR OFR TO OTT
  have OSH:FnOk l.prog w K mg base CX0 7 fSH dSH ["book", "weights", "shares"] (iI K shB):=aDH SH B NW ONW SR OSR
  have OLV:FnOk l.prog w K mg base CX0 8 fLV dLV ["book", "weights", "shares"] (iI K lvB):=aDJ LV B SH OSH TO OTL LL OLL
  have OAH:FnOk l.prog w K mg base CX0 1 fAH dAH ["found"] (jZ K):=aCj AH B
  have OAL:FnOk l.prog w K mg base CX0 1 fAL dAL ["a", "b"] (iZ):=aEB AL
  have OSU:FnOk l.prog w K mg base CX0 2 fSU dSU ["some"] (tS K):=aEC SU AL OAL
  have ONM:FnOk l.prog w K mg base CX0 1 fNM dNM ["one", "other"] (tT K):=aB9 NM
  have OAF:FnOk l.prog w K mg base CX0 2 fAF dAF ["thing"] (vP K):=aDF AF B AH OAH
  have OAS:FnOk l.prog w K mg base CX0 3 fAS dAS ["book", "weights", "shares"] (iI K shB):=aCk AS B AF OAF SU OSU
  have OOS:FnOk l.prog w K mg base CX0 3 fOS dOS ["book", "shares"] (aAA K):=aDK OS B SU OSU
  have OAV:FnOk l.prog w K mg base CX0 4 fAV dAV ["book", "weights", "shares"] (iI K lvB):=aCl AV B AS OAS OS OOS NM ONM
  have OBE:FnOk l.prog w K mg base CX0 3 fBE dBE ["book", "at", "row"] (aAE K):=aE7 BE B SU OSU
  have OAA:FnOk l.prog w K mg base CX0 4 fAA dAA ["book", "weights", "shares"] (aDU K):=aGm AA B BE OBE
  exact aGo LW B TA (aEu TA B CE) AB (aDd AB B DG ODG) WT (aGa WT B DG ODG) IP OIP AA OAA SH OSH LV OLV AS OAS AV OAV
theorem walk {l:PySem.W.OpenLaw} {d:DefRec} {K:Params->PySem.W.Frag} (hn:l.most=some 63) (hdf:d.params.defaults = []) (hq:importsNone q=true) (hY:∀ (w:World) (h:Heap),YP w h->(K w.params).In h) (F:∀ (w:World) (mg:Str->Option Value) (fa:Addr) (h:Heap),(K w.params).In h->h.Ns mainGlobals mg->mg d.name=some (.ref fa) ->
   ∃ fd:FuncData,(∀ (s:Shared) (u:Value),BindsTo s fd ⟨[u],[]⟩ [("script",u)])/\∀ base:Heap,(K w.params).In base->base.Ns mainGlobals mg->FnOk l.prog w (K w.params) mg base CX0 10 fa fd ["script"] (aBs (K w.params))) :
  PySem.W.WalkO q loose XP YP l.row.toRowW d [] (fun f vs=>PySem.call f vs) :=
 L2.aD6 (n:=63) (k:=10) (x := "script") (CX:=fun _=>CX0) (sp:=fun w=>aBs (K w.params)) hn (by decide) hdf ⟨rfl,by decide,by decide,rfl⟩ hq hY F (fun _ _ a ns _ _ hS=>⟨a,ns,rfl,hS,fun _=>rfl⟩) fun _ _ _ _ _ z=>z
end Ab
open PySem PySem.W PyProof.Rows
set_option maxRecDepth 100000 in
set_option maxHeartbeats 0 in
theorem PySem.Challenge.cw_ablehands_k23_shares_looked_at_holds : PySem.Challenge.rw_ablehands_k23_shares_looked_at.Holds := by
 w_on; o_law; k_head; (case hw=>w_witness2)
 k_fill
 refine Ab.walk (l:=PySem.Challenge.rw_ablehands_k23_shares_looked_at) rfl rfl (by decide +kernel) (fun w h Y=>PySem.W.kIn_of Y) ?F
 case F =>
  intro w mg fa h KX G hmg
  refine' Ab.aE9 hmg ?B ?hW ?hH ?hKw ?hBP ?hNB ?hCM ?hLO ?hPL ?hIL ?hFR ?hTO ?hAW ?hNW ?hWI ?hST ?hHV ?hBK ?hRC ?hWY ?hHA ?hSP ?hLL ?hPA ?hIP ?hSR ?hSH ?hLV ?hCE ?hTA ?hDG ?hAH ?hAL ?hSU ?hNM ?hAB ?hWT ?hAF ?hAS ?hOS ?hAV ?hBE ?hAA ?hLW
  case B =>
   refine' Ab.aHa KX G ?z0 ?z1 ?z2 ?z3 ?z4 ?z5 ?z6 ?z7 ?z8 ?z9 ?z10 ?z11 ?z12 ?z13 ?z14 ?z15 ?z16 ?zA ?zB ?zK0 ?zK1
   (case z0=>k_is)
   (case z1=>k_is)
   (case z2=>k_is)
   (case z3=>k_is)
   (case z4=>k_is)
   (case z5=>k_is)
   (case z6=>k_is)
   (case z7=>k_is)
   (case z8=>k_is)
   (case z9=>k_is)
   (case z10=>k_is)
   (case z11=>k_is)
   (case z12=>k_is)
   (case z13=>k_is)
   (case z14=>k_is)
   (case z15=>k_is)
   (case z16=>k_is)
   (case zA=>k_is)
   (case zB=>k_is)
   (case zK0=>k_is)
   (case zK1=>k_is)
  case hW =>
   refine' Ab.bW KX G (fun _ _ _ _ _ _ us hl=>match us,hl with | [_],_=>rfl) ?a ?l ?c ?k
   (case a=>k_is); (case l=>k_is); (case c=>k_is); (case k=>k_is)
  case hH =>
   refine' Ab.bW KX G (fun _ _ _ _ _ _ us hl=>match us,hl with | [_],_=>rfl) ?a ?l ?c ?k
   (case a=>k_is); (case l=>k_is); (case c=>k_is); (case k=>k_is)
  case hKw =>
   refine' Ab.bW KX G (fun _ _ _ _ _ _ us hl=>match us,hl with | [_,_],_=>rfl) ?a ?l ?c ?k
   (case a=>k_is); (case l=>k_is); (case c=>k_is); (case k=>k_is)
  case hBP =>
   refine' Ab.bW KX G (fun _ _ _ _ _ _ us hl=>match us,hl with | [_],_=>rfl) ?a ?l ?c ?k
   (case a=>k_is); (case l=>k_is); (case c=>k_is); (case k=>k_is)
  case hNB =>
   refine' Ab.bW KX G (fun _ _ _ _ _ _ us hl=>match us,hl with | [_],_=>rfl) ?a ?l ?c ?k
   (case a=>k_is); (case l=>k_is); (case c=>k_is); (case k=>k_is)
  case hCM =>
   refine' Ab.bW KX G (fun _ _ _ _ _ _ us hl=>match us,hl with | [_,_],_=>rfl) ?a ?l ?c ?k
   (case a=>k_is); (case l=>k_is); (case c=>k_is); (case k=>k_is)
  case hLO =>
   refine' Ab.bW KX G (fun _ _ _ _ _ _ us hl=>match us,hl with | [_,_],_=>rfl) ?a ?l ?c ?k
   (case a=>k_is); (case l=>k_is); (case c=>k_is); (case k=>k_is)
  case hPL =>
   refine' Ab.bW KX G (fun _ _ _ _ _ _ us hl=>match us,hl with | [_,_],_=>rfl) ?a ?l ?c ?k
   (case a=>k_is); (case l=>k_is); (case c=>k_is); (case k=>k_is)
  case hIL =>
   refine' Ab.bW KX G (fun _ _ _ _ _ _ us hl=>match us,hl with | [_,_],_=>rfl) ?a ?l ?c ?k
   (case a=>k_is); (case l=>k_is); (case c=>k_is); (case k=>k_is)
  case hFR =>
   refine' Ab.bW KX G (fun _ _ _ _ _ _ us hl=>match us,hl with | [_],_=>rfl) ?a ?l ?c ?k
   (case a=>k_is); (case l=>k_is); (case c=>k_is); (case k=>k_is)
  case hTO =>
   refine' Ab.bW KX G (fun _ _ _ _ _ _ us hl=>match us,hl with | [_],_=>rfl) ?a ?l ?c ?k
   (case a=>k_is); (case l=>k_is); (case c=>k_is); (case k=>k_is)
  case hAW =>
   refine' Ab.bW KX G (fun _ _ _ _ _ _ us hl=>match us,hl with | [_,_],_=>rfl) ?a ?l ?c ?k
   (case a=>k_is); (case l=>k_is); (case c=>k_is); (case k=>k_is)
  case hNW =>
   refine' Ab.bW KX G (fun _ _ _ _ _ _ us hl=>match us,hl with | [_,_],_=>rfl) ?a ?l ?c ?k
   (case a=>k_is); (case l=>k_is); (case c=>k_is); (case k=>k_is)
  case hWI =>
   refine' Ab.bW KX G (fun _ _ _ _ _ _ us hl=>match us,hl with | [_,_],_=>rfl) ?a ?l ?c ?k
   (case a=>k_is); (case l=>k_is); (case c=>k_is); (case k=>k_is)
  case hST =>
   refine' Ab.bW KX G (fun _ _ _ _ _ _ us hl=>match us,hl with | [_],_=>rfl) ?a ?l ?c ?k
   (case a=>k_is); (case l=>k_is); (case c=>k_is); (case k=>k_is)
  case hHV =>
   refine' Ab.bW KX G (fun _ _ _ _ _ _ us hl=>match us,hl with | [_,_],_=>rfl) ?a ?l ?c ?k
   (case a=>k_is); (case l=>k_is); (case c=>k_is); (case k=>k_is)
  case hBK =>
   refine' Ab.bW KX G (fun _ _ _ _ _ _ us hl=>match us,hl with | [_,_],_=>rfl) ?a ?l ?c ?k
   (case a=>k_is); (case l=>k_is); (case c=>k_is); (case k=>k_is)
  case hRC =>
   refine' Ab.bW KX G (fun _ _ _ _ _ _ us hl=>match us,hl with | [_,_],_=>rfl) ?a ?l ?c ?k
   (case a=>k_is); (case l=>k_is); (case c=>k_is); (case k=>k_is)
  case hWY =>
   refine' Ab.bW KX G (fun _ _ _ _ _ _ us hl=>match us,hl with | [_,_],_=>rfl) ?a ?l ?c ?k
   (case a=>k_is); (case l=>k_is); (case c=>k_is); (case k=>k_is)
  case hHA =>
   refine' Ab.bW KX G (fun _ _ _ _ _ _ us hl=>match us,hl with | [_,_,_],_=>rfl) ?a ?l ?c ?k
   (case a=>k_is); (case l=>k_is); (case c=>k_is); (case k=>k_is)
  case hSP =>
   refine' Ab.bW KX G (fun _ _ _ _ _ _ us hl=>match us,hl with | [_,_,_],_=>rfl) ?a ?l ?c ?k
   (case a=>k_is); (case l=>k_is); (case c=>k_is); (case k=>k_is)
  case hLL =>
   refine' Ab.bW KX G (fun _ _ _ _ _ _ us hl=>match us,hl with | [_,_],_=>rfl) ?a ?l ?c ?k
   (case a=>k_is); (case l=>k_is); (case c=>k_is); (case k=>k_is)
  case hPA =>
   refine' Ab.bW KX G (fun _ _ _ _ _ _ us hl=>match us,hl with | [_,_],_=>rfl) ?a ?l ?c ?k
   (case a=>k_is); (case l=>k_is); (case c=>k_is); (case k=>k_is)
  case hIP =>
   refine' Ab.bW KX G (fun _ _ _ _ _ _ us hl=>match us,hl with | [_,_],_=>rfl) ?a ?l ?c ?k
   (case a=>k_is); (case l=>k_is); (case c=>k_is); (case k=>k_is)
  case hSR =>
   refine' Ab.bW KX G (fun _ _ _ _ _ _ us hl=>match us,hl with | [_,_,_,_],_=>rfl) ?a ?l ?c ?k
   (case a=>k_is); (case l=>k_is); (case c=>k_is); (case k=>k_is)
  case hSH =>
   refine' Ab.bW KX G (fun _ _ _ _ _ _ us hl=>match us,hl with | [_,_,_],_=>rfl) ?a ?l ?c ?k
   (case a=>k_is); (case l=>k_is); (case c=>k_is); (case k=>k_is)
  case hLV =>
   refine' Ab.bW KX G (fun _ _ _ _ _ _ us hl=>match us,hl with | [_,_,_],_=>rfl) ?a ?l ?c ?k
   (case a=>k_is); (case l=>k_is); (case c=>k_is); (case k=>k_is)
  case hCE =>
   refine' Ab.bW KX G (fun _ _ _ _ _ _ us hl=>match us,hl with | [_,_],_=>rfl) ?a ?l ?c ?k
   (case a=>k_is); (case l=>k_is); (case c=>k_is); (case k=>k_is)
  case hTA =>
   refine' Ab.bW KX G (fun _ _ _ _ _ _ us hl=>match us,hl with | [_,_],_=>rfl) ?a ?l ?c ?k
   (case a=>k_is); (case l=>k_is); (case c=>k_is); (case k=>k_is)
  case hDG =>
   refine' Ab.bW KX G (fun _ _ _ _ _ _ us hl=>match us,hl with | [_,_],_=>rfl) ?a ?l ?c ?k
   (case a=>k_is); (case l=>k_is); (case c=>k_is); (case k=>k_is)
  case hAH =>
   refine' Ab.bW KX G (fun _ _ _ _ _ _ us hl=>match us,hl with | [_],_=>rfl) ?a ?l ?c ?k
   (case a=>k_is); (case l=>k_is); (case c=>k_is); (case k=>k_is)
  case hAL =>
   refine' Ab.bW KX G (fun _ _ _ _ _ _ us hl=>match us,hl with | [_,_],_=>rfl) ?a ?l ?c ?k
   (case a=>k_is); (case l=>k_is); (case c=>k_is); (case k=>k_is)
  case hSU =>
   refine' Ab.bW KX G (fun _ _ _ _ _ _ us hl=>match us,hl with | [_],_=>rfl) ?a ?l ?c ?k
   (case a=>k_is); (case l=>k_is); (case c=>k_is); (case k=>k_is)
  case hNM =>
   refine' Ab.bW KX G (fun _ _ _ _ _ _ us hl=>match us,hl with | [_,_],_=>rfl) ?a ?l ?c ?k
   (case a=>k_is); (case l=>k_is); (case c=>k_is); (case k=>k_is)
  case hAB =>
   refine' Ab.bW KX G (fun _ _ _ _ _ _ us hl=>match us,hl with | [_,_,_],_=>rfl) ?a ?l ?c ?k
   (case a=>k_is); (case l=>k_is); (case c=>k_is); (case k=>k_is)
  case hWT =>
   refine' Ab.bW KX G (fun _ _ _ _ _ _ us hl=>match us,hl with | [_,_],_=>rfl) ?a ?l ?c ?k
   (case a=>k_is); (case l=>k_is); (case c=>k_is); (case k=>k_is)
  case hAF =>
   refine' Ab.bW KX G (fun _ _ _ _ _ _ us hl=>match us,hl with | [_],_=>rfl) ?a ?l ?c ?k
   (case a=>k_is); (case l=>k_is); (case c=>k_is); (case k=>k_is)
  case hAS =>
   refine' Ab.bW KX G (fun _ _ _ _ _ _ us hl=>match us,hl with | [_,_,_],_=>rfl) ?a ?l ?c ?k
   (case a=>k_is); (case l=>k_is); (case c=>k_is); (case k=>k_is)
  case hOS =>
   refine' Ab.bW KX G (fun _ _ _ _ _ _ us hl=>match us,hl with | [_,_],_=>rfl) ?a ?l ?c ?k
   (case a=>k_is); (case l=>k_is); (case c=>k_is); (case k=>k_is)
  case hAV =>
   refine' Ab.bW KX G (fun _ _ _ _ _ _ us hl=>match us,hl with | [_,_,_],_=>rfl) ?a ?l ?c ?k
   (case a=>k_is); (case l=>k_is); (case c=>k_is); (case k=>k_is)
  case hBE =>
   refine' Ab.bW KX G (fun _ _ _ _ _ _ us hl=>match us,hl with | [_,_,_],_=>rfl) ?a ?l ?c ?k
   (case a=>k_is); (case l=>k_is); (case c=>k_is); (case k=>k_is)
  case hAA =>
   refine' Ab.bW KX G (fun _ _ _ _ _ _ us hl=>match us,hl with | [_,_,_],_=>rfl) ?a ?l ?c ?k
   (case a=>k_is); (case l=>k_is); (case c=>k_is); (case k=>k_is)
  case hLW =>
   refine' Ab.bW KX G (fun _ _ _ _ _ _ us hl=>match us,hl with | [_],_=>rfl) ?a ?l ?c ?k
   (case a=>k_is); (case l=>k_is); (case c=>k_is); (case k=>k_is)
