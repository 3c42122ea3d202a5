import PyProof.Rows.All
import Wide.All
import OpenK.AllK
import Wide.FinOn
import PyProof.EqAt
import PyProof.EqKinds
import PyProof.TupleCall
import PyProof.Rows.TupDisplay
import PyProof.DictCompW
import PyProof.WalksMore
import PyProof.MinMaxWalk
import PyProof.DictDisplay
import PyProof.DictWalks
import Lean
import PySem.Challenge.RW_ablehands_k51_texts_that_write_no_book
def PySem.W.Fast.tw854725716566351147 : Nat := 0
def PySem.W.Fast.tw15456196824259199653 : Nat := 0
def PySem.W.Fast.tw13550822621466551648 : Nat := 0
def PySem.W.Fast.tw749650980658202127 : Nat := 0
def PySem.W.Fast.tw12991333137526817981 : Nat := 0
def PySem.W.Fast.tw7937936442198944492 : Nat := 0
def PySem.W.Fast.tw6040578740396211806 : Nat := 0
def PySem.W.Fast.tw11734876514500653958 : Nat := 0
def PySem.W.Fast.tw6851319118834526357 : Nat := 0
def PySem.W.Fast.tw5001186533990917670 : Nat := 0
def PySem.W.Fast.tw5972754408176586623 : Nat := 0
def PySem.W.Fast.tw6221990789539015766 : Nat := 0
def PySem.W.Fast.tw15137717522018801294 : Nat := 0
def PySem.W.Fast.tw1020592711905300269 : Nat := 0
def PySem.W.Fast.tw9355998924781150799 : Nat := 0
def PySem.W.Fast.tw15404307877375676291 : Nat := 0
def PySem.W.Fast.tw6874709890829370163 : Nat := 0
def PySem.W.Fast.tw6217920980514819109 : Nat := 0
def PySem.W.Fast.tw1612349513296657265 : Nat := 0
def PySem.W.Fast.tw14360148142505404379 : Nat := 0
def PySem.W.Fast.tw12858102930932578416 : Nat := 0
def PySem.W.Fast.tw4832515190409424538 : Nat := 0
def PySem.W.Fast.tw13669409857005075110 : Nat := 0
def PySem.W.Fast.tw10264562260437937986 : Nat := 0
def PySem.W.Fast.tw6635972331881870330 : Nat := 0
def PySem.W.Fast.tw10980991990601922750 : Nat := 0
def PySem.W.Fast.tw924276955383432573 : Nat := 0
def PySem.W.Fast.tw17418429655501485566 : Nat := 0
def PySem.W.Fast.tw4255410004610869140 : Nat := 0
def PySem.W.Fast.tw14621478126111783227 : Nat := 0
def PySem.W.Fast.tw14048980840494894574 : Nat := 0
def PySem.W.Fast.tw10107946431377440094 : Nat := 0
def PySem.W.Fast.tw11359824154072276644 : Nat := 0
def PySem.W.Fast.tw1941723573350274209 : Nat := 0
def PySem.W.Fast.tw7639012307566181357 : Nat := 0
def PySem.W.Fast.tw4661556705092907717 : Nat := 0
def PySem.W.Fast.tw3909521632509805669 : Nat := 0
def PySem.W.Fast.tw3966931611791927163 : Nat := 0
def PySem.W.Fast.tw555158928592033921 : Nat := 0
def PySem.W.Fast.tw7252234862528473570 : Nat := 0
def PySem.W.Fast.tw16631475400051832749 : Nat := 0
def PySem.W.Fast.tw10792797683183290 : Nat := 0
def PySem.W.Fast.tw9442069916277913316 : Nat := 0
def PySem.W.Fast.tw4614054036107423780 : Nat := 0
def PySem.W.Fast.tw13122808131028106759 : Nat := 0
def PySem.W.Fast.tw5301100615319119473 : Nat := 0
def PySem.W.Fast.tw17171433033319163999 : Nat := 0
def PySem.W.Fast.tw299003716571546933 : Nat := 0
def PySem.W.Fast.tw4520320910969352978 : Nat := 0
def PySem.W.Fast.tw15129848898354748415 : Nat := 0
def PySem.W.Fast.tw17045621272179466295 : Nat := 0
def PySem.W.Fast.tw5577146065371810662 : Nat := 0
def PySem.W.Fast.tw12423804060916344307 : Nat := 0
def PySem.W.Fast.tw10063253664605237207 : Nat := 0
def PySem.W.Fast.tw17058298667927089171 : Nat := 0
def PySem.W.Fast.tw13948082531633863972 : Nat := 0
def PySem.W.Fast.tw95947006612627691 : Nat := 0
def PySem.W.Fast.tw12628878503468119912 : Nat := 0
def PySem.W.Fast.tw7588757201963913201 : Nat := 0
def PySem.W.Fast.tw9095528273650167647 : Nat := 0
def PySem.W.Fast.tw1403150417159246565 : Nat := 0
def PySem.W.Fast.tw17104169533397570194 : Nat := 0
def PySem.W.Fast.tw392590896865240071 : Nat := 0
def PySem.W.Fast.tw10360706762504763006 : Nat := 0
def PySem.W.Fast.tw2705208446664223800 : Nat := 0
def PySem.W.Fast.tw15145115881013551243 : Nat := 0
def PySem.W.Fast.tw3605395699032834555 : Nat := 0
def PySem.W.Fast.tw1112854381312452094 : Nat := 0
def PySem.W.Fast.tw13382700623799754910 : Nat := 0
def PySem.W.Fast.tw13614099286987464130 : Nat := 0
def PySem.W.Fast.tw11050671489877965946 : Nat := 0
def PySem.W.Fast.tw12035583389958228030 : Nat := 0
def PySem.W.Fast.tw18419006671202098729 : Nat := 0
def PySem.W.Fast.tw15007859917211137226 : Nat := 0
def PySem.W.Fast.tw4808689272976240712 : Nat := 0
def PySem.W.Fast.tw12367712778673169450 : Nat := 0
def PySem.W.Fast.tw12248333710855113008 : Nat := 0
def PySem.W.Fast.tw8308828961744384978 : Nat := 0
def PySem.W.Fast.tw988083647354043040 : Nat := 0
def PySem.W.Fast.tw13496766017740780976 : Nat := 0
def PySem.W.Fast.tw2499958456379123911 : Nat := 0
def PySem.W.Fast.tw1981513857261624919 : Nat := 0
def PySem.W.Fast.tw5929373387655155960 : Nat := 0
def PySem.W.Fast.tw14239762778792378720 : Nat := 0
def PySem.W.Fast.tw6024414809673360531 : Nat := 0
def PySem.W.Fast.tw3147767613526273778 : Nat := 0
def PySem.W.Fast.tw16886219765617950718 : Nat := 0
def PySem.W.Fast.tw13999010396549632139 : Nat := 0
def PySem.W.Fast.tw16949198429192074532 : Nat := 0
def PySem.W.Fast.tw8751735040526252357 : Nat := 0
def PySem.W.Fast.tw16077319741032179669 : Nat := 0
def PySem.W.Fast.tw9422369369853099376 : Nat := 0
def PySem.W.Fast.tw16658805044851218401 : Nat := 0
def PySem.W.Fast.tw9460047943894563630 : Nat := 0
def PySem.W.Fast.tw10511038261981055252 : Nat := 0
def PySem.W.Fast.tw5800902931747100745 : Nat := 0
def PySem.W.Fast.tw14448004166776044001 : Nat := 0
def PySem.W.Fast.tw2259475265235084387 : Nat := 0
def PySem.W.Fast.tw16331475818489520647 : Nat := 0
def PySem.W.Fast.tw10922242889014215483 : Nat := 0
def PySem.W.Fast.tw17679259279178625377 : Nat := 0
def PySem.W.Fast.tw16763319809005318370 : Nat := 0
def PySem.W.Fast.tw12270367855790347189 : Nat := 0
def PySem.W.Fast.tw5953482415518334093 : Nat := 0
def PySem.W.Fast.tw1183122376408467118 : Nat := 0
def PySem.W.Fast.tw4092830107411461162 : Nat := 0
def PySem.W.Fast.tw8657087930166316814 : Nat := 0
def PySem.W.Fast.tw2780188958302087545 : Nat := 0
def PySem.W.Fast.tw1619444232749218696 : Nat := 0
def PySem.W.Fast.tw7825781242362090986 : Nat := 0
def PySem.W.Fast.tw7271103050266360303 : Nat := 0
def PySem.W.Fast.tw6818230505670641416 : Nat := 0
def PySem.W.Fast.tw8633778298227199100 : Nat := 0
def PySem.W.Fast.tw2340460061596747331 : Nat := 0
def PySem.W.Fast.tw7108834519215274261 : Nat := 0
def PySem.W.Fast.tw3575237072931401664 : Nat := 0
def PySem.W.Fast.tw10193170761006829073 : Nat := 0
def PySem.W.Fast.tw6992751540017339788 : Nat := 0
def PySem.W.Fast.tw2208375282022053992 : Nat := 0
def PySem.W.Fast.tw1899490680950636622 : Nat := 0
def PySem.W.Fast.tw13856917216774032399 : Nat := 0
def PySem.W.Fast.tw10285994238921431823 : Nat := 0
def PySem.W.Fast.tw9404980123269760014 : Nat := 0
def PySem.W.Fast.tw1369071343410006305 : Nat := 0
def PySem.W.Fast.tw6374223659918492959 : Nat := 0
def PySem.W.Fast.tw9408651958960615434 : Nat := 0
def PySem.W.Fast.tw9691713480097311998 : Nat := 0
def PySem.W.Fast.tw7196747511463467454 : Nat := 0
def PySem.W.Fast.tw18378185641227976949 : Nat := 0
def PySem.W.Fast.tw10980414846325067544 : Nat := 0
def PySem.W.Fast.tw4465569092965577840 : Nat := 0
def PySem.W.Fast.tw15417065156101827833 : Nat := 0
def PySem.W.Fast.tw1196467351149056725 : Nat := 0
def PySem.W.Fast.tw15040263591057294953 : Nat := 0
def PySem.W.Fast.tw13226751289305368521 : Nat := 0
def PySem.W.Fast.tw2391201170270654564 : Nat := 0
def PySem.W.Fast.tw17103876911201745789 : Nat := 0
def PySem.W.Fast.tw5683152042099156888 : Nat := 0
def PySem.W.Fast.tw11092282607447005213 : Nat := 0
def PySem.W.Fast.tw8747024238505444274 : Nat := 0
def PySem.W.Fast.tw16501726778777703111 : Nat := 0
def PySem.W.Fast.tw13096486559617159977 : Nat := 0
def PySem.W.Fast.tw9318523942994789723 : Nat := 0
set_option Elab.async false
set_option linter.all false
set_option maxRecDepth 100000
namespace L2
open PySem PySem.Spec PyProof.Rows

abbrev Key := Sum Int Str
def keyIs : Key → Value → Bool
  | .inl k, v => Value.isInt k v
  | .inr x, v => Value.isStrOf x v
def keyH (w : World) : Key → Int
  | .inl k => hashInt k
  | .inr x => hashStr w x
theorem keyIs_shape : ∀ {k : Key} {v : Value}, keyIs k v = true → (∃ i t, k = Sum.inl i ∧ v = Value.int i t) ∨ (∃ x t, k = Sum.inr x ∧ v = Value.str x t)
  | .inl i, v, h => by
    obtain ⟨t, e⟩ := Value.isInt_shape (k := i) (v := v) h
    exact .inl ⟨i, t, rfl, e⟩
  | .inr x, v, h => by
    obtain ⟨t, e⟩ := Value.isStrOf_shape (x := x) (v := v) h
    exact .inr ⟨x, t, rfl, e⟩
theorem key_ll (a b : Int) : decide ((Sum.inl a : Key) = Sum.inl b) = (a == b) := by
  by_cases e : a = b
  · subst e; simp
  · have h : ¬ (Sum.inl a : Key) = Sum.inl b := fun q => e (Sum.inl.inj q)
    rw [decide_eq_false h]
    exact (beq_eq_false_iff_ne.mpr e).symm
theorem key_rr (a b : Str) : decide ((Sum.inr a : Key) = Sum.inr b) = decide (a = b) := by
  by_cases e : a = b
  · subst e; simp
  · have h : ¬ (Sum.inr a : Key) = Sum.inr b := fun q => e (Sum.inr.inj q)
    rw [decide_eq_false h, decide_eq_false e]
theorem key_lr (a : Int) (b : Str) : decide ((Sum.inl a : Key) = Sum.inr b) = false := decide_eq_false (fun q => nomatch q)
theorem key_rl (a : Str) (b : Int) : decide ((Sum.inr a : Key) = Sum.inl b) = false := decide_eq_false (fun q => nomatch q)

def mixKind (prog : Program) (w : World) : PySem.KeyKind prog w Key where
  is := keyIs
  hash := keyH w
  inj := fun v a b ha hb => by
    rcases keyIs_shape ha with ⟨i, t, rfl, rfl⟩ | ⟨x, t, rfl, rfl⟩
    · rcases keyIs_shape hb with ⟨j, u, rfl, e⟩ | ⟨y, u, rfl, e⟩
      · injection e with e1 _; rw [e1]
      · exact nomatch e
    · rcases keyIs_shape hb with ⟨j, u, rfl, e⟩ | ⟨y, u, rfl, e⟩
      · exact nomatch e
      · injection e with e1 _; rw [e1]
  byValue := fun k v h => by
    rcases keyIs_shape h with ⟨i, t, rfl, rfl⟩ | ⟨x, t, rfl, rfl⟩ <;> rfl
  pyHash := fun hv h => by
    rcases keyIs_shape hv with ⟨i, t, rfl, rfl⟩ | ⟨x, t, rfl, rfl⟩
    · exact wpAny_pyHash_int h
    · exact wpAny_pyHash_str h
  eqBool := fun hu hv h => by
    rcases keyIs_shape hu with ⟨i, t, rfl, rfl⟩ | ⟨x, t, rfl, rfl⟩
    · rcases keyIs_shape hv with ⟨j, u, rfl, rfl⟩ | ⟨y, u, rfl, rfl⟩
      · rw [key_ll] at h; exact wpAny_eqBool_int h
      · rw [key_lr] at h; exact SeqAt.EqAt.int_str i t y u _ _ _ _ h
    · rcases keyIs_shape hv with ⟨j, u, rfl, rfl⟩ | ⟨y, u, rfl, rfl⟩
      · rw [key_rl] at h; exact SeqAt.EqAt.str_int x t j u _ _ _ _ h
      · rw [key_rr] at h; exact wpAny_eqBool_str h
  «strs» := fun k x t v h => by
    rcases keyIs_shape h with ⟨i, u, rfl, e⟩ | ⟨y, u, rfl, e⟩
    · exact nomatch e
    · injection e with e1 _
      subst e1
      cases v <;> rfl

end L2

namespace L2
open PySem PySem.Spec PyProof.Rows

inductive V where
  | non | bl (b : Bool) | int (i : Int) | str (x : Str) | byt (b : Array UInt8) | flt (b : UInt64) | ref (a : Addr) | ty (n : String)
  deriving DecidableEq

def RelV : V → Value → Prop
  | .non, u => u = Value.none
  | .bl b, u => u = Value.bool b
  | .int i, u => ∃ t, u = Value.int i t
  | .str x, u => ∃ t, u = Value.str x t
  | .byt b, u => ∃ t, u = Value.bytes b t
  | .flt b, u => ∃ t, u = Value.float b t
  | .ref a, u => u = Value.ref a
  | .ty n, u => u = Value.type n

abbrev Vals : List V → List Value → Prop := Paired RelV
theorem Vals.length {xs : List V} {us : List Value} (r : Vals xs us) : xs.length = us.length := Paired.length r
theorem Vals.get : ∀ {xs : List V} {us : List Value} {i : Nat} {x : V}, Vals xs us → xs[i]? = some x → ∃ u, us[i]? = some u ∧ RelV x u
  | _, _, _, _, .nil, e => by simp at e
  | _, _, 0, _, .cons r _, e => by simp at e; subst e; exact ⟨_, rfl, r⟩
  | _, _, i + 1, x, .cons _ t, e => by
    obtain ⟨u, h1, h2⟩ := Vals.get (i := i) (x := x) t (by simpa using e)
    exact ⟨u, by simpa using h1, h2⟩
theorem Vals.set {x : V} {u : Value} (r : RelV x u) : ∀ {xs : List V} {us : List Value} (i : Nat), Vals xs us → Vals (xs.set i x) (us.set i u)
  | _, _, _, .nil => .nil
  | _, _, 0, .cons _ t => .cons r t
  | _, _, i + 1, .cons q t => .cons q (Vals.set r i t)
theorem Vals.append : ∀ {xs ys : List V} {us ws : List Value}, Vals xs us → Vals ys ws → Vals (xs ++ ys) (us ++ ws)
  := by
  intro xs ys us ws h s
  induction h with
  | nil => exact s
  | cons r t ih => exact .cons r ih
theorem Vals.take : ∀ {xs : List V} {us : List Value} (n : Nat), Vals xs us → Vals (xs.take n) (us.take n)
  | _, _, 0, _ => .nil
  | _, _, _ + 1, .nil => .nil
  | _, _, n + 1, .cons r t => .cons r (Vals.take n t)
theorem Vals.drop : ∀ {xs : List V} {us : List Value} (n : Nat), Vals xs us → Vals (xs.drop n) (us.drop n)
  | _, _, 0, r => r
  | _, _, _ + 1, .nil => .nil
  | _, _, n + 1, .cons _ t => Vals.drop n t
def RelO : Option V → Option Value → Prop
  | some v, some u => RelV v u
  | none, none => True
  | _, _ => False
def KV {κ : Type} : List (κ × V) → List (κ × Value) → Prop := Paired fun (p : κ × V) (q : κ × Value) => p.1 = q.1 ∧ RelV p.2 q.2

def kV : Key → V
  | .inl i => .int i
  | .inr x => .str x

inductive HO where
  /-- a list -/
  | lst (xs : List V)
  /-- a tuple (never changes) -/
  | tup (xs : List V)
  /-- a dict whose keys are ints and texts; one whose keys are tuples of ints and texts (the empty one is both) -/
  | dK (kvs : List (Key × V)) | dT (kvs : List (List Key × V))
  /-- a set of ints: its members, its size -/
  | set (S : Int → Bool) (n : Nat)
  /-- an instance of the class at C, its dict at dx, its attributes -/
  | ins (C dx : Addr) (fs : List (Str × V))
  /-- the dict of the instance at x -/
  | own (x : Addr)
  /-- the dict of an exception -/
  | xd (fs : List (Str × V))
  /-- a bound method, f of x -/
  | met (f x : Addr)
  /-- a range object lo, lo + 1, .. below hi -/
  | rng (lo hi : Int)
  /-- a thing that is known to the object (the script; a dict while a loop walks it): read, never written while it is so -/
  | frz (o : Obj) (u : HO)
  /-- a code object's table -/
  | tbl (ps : Array Value)
  /-- a code object's table, all of whose codes have the name q; they are tracked as its own -/
  | tab (q : Str)
  /-- any other thing, by what is true of its one object (a def of one's own: SetO a S n := HO.ext fun h => ..) -/
  | ext (φ : Heap → Prop)

abbrev Hp := Addr → Option HO
def upd (H : Hp) (a : Addr) (o : HO) : Hp := fun b => if b = a then some o else H b
theorem upd_same {H : Hp} {a : Addr} {o : HO} : upd H a o a = some o := by unfold upd; rw [if_pos rfl]
theorem upd_ne {H : Hp} {a b : Addr} {o : HO} (h : b ≠ a) : upd H a o b = H b := by unfold upd; rw [if_neg h]
theorem ne_of_none {H : Hp} {a b : Addr} {o : HO} (h : H a = some o) (h' : H b = none) : a ≠ b := by
  intro e; subst e; rw [h] at h'; cases h'

section
variable (P : Program) (w : World)
def ObjOk (H : Hp) (h : Heap) (a : Addr) : HO → Prop
  | .lst xs => xs.length ≤ sizeLine ∧ ∃ (its : List Value) (n : Nat), Vals xs its ∧ h.get? a = some { cls := .type "list", data := .seq its.toArray n }
  | .tup xs => xs.length ≤ sizeLine ∧ ∃ (its : List Value) (n : Nat), Vals xs its ∧ h.get? a = some { cls := .type "tuple", data := .seq its.toArray n }
  | .dK kvs => kvs.length ≤ sizeLine ∧ (a == sysModules) = false ∧ ∃ vs, KV kvs vs ∧ h.DictOf (mixKind P w) a vs
  | .dT kvs => kvs.length ≤ sizeLine ∧ (a == sysModules) = false ∧ ∃ xs : List (List Key × Addr × Value),
      Paired (fun (p : List Key × V) (q : List Key × Addr × Value) => p.1 = q.1 ∧ H q.2.1 = some (.tup (p.1.map kV)) ∧ RelV p.2 q.2.2) kvs xs ∧
      ∃ o es ep, h.get? a = some o ∧ o.ExactDict ∧ o.data = .dict es ep ∧ es.toList = xs.map (entryOfKey (tupleKind (mixKind P w))) ∧ (xs.map (·.1)).Nodup
  | .set S n => h.SetOf (intKind P w) a S n
  | .ins C dx fs => H dx = some (.own a) ∧ fs.length ≤ 1000 ∧ dx ≠ a ∧ h.get? a = some (PySem.W.instObj C dx) ∧
      ∃ mA, h.Ns1 dx mA ∧ (∀ f, RelO (fs.lookup f) (mA f)) ∧ PySem.Within mA (fs.map (·.1))
  | .own _ => ∃ o, h.get? a = some o
  | .xd fs => ∃ mA, h.Ns1 a mA ∧ ∀ f, RelO (fs.lookup f) (mA f)
  | .rng lo hi => ∃ t u v, h.get? a = some { cls := .type "range", data := .fields #[.int lo t, .int hi u, .int 1 v] }
  | .frz o u => h.get? a = some o ∧ ObjOk H h a u
  | .tbl ps => h.get? a = some { cls := .none, data := .fields ps }
  | .tab q => ∃ ps : Array Value, h.get? a = some { cls := .none, data := .fields ps } ∧ TriplesOk ps.toList ∧ ∀ (pos : Pos) (cv : Value), codeAmong pos ps.toList = some cv → ∃ (c : Addr) (o : Obj) (vs : Array Value) (t : Tok), cv = .ref c ∧ H c = some (.own a) ∧ h.get? c = some o ∧ o.data = .fields vs ∧ vs[1]? = some (.str q t)
  | .met f x => h.get? a = some (PySem.W.methodObj (.ref f) (.ref x))
  | .ext φ => φ h ∧ (∃ o, h.get? a = some o) ∧ ∀ h1 h2 : Heap, φ h1 → (∀ o, h1.get? a = some o → h2.get? a = some o) → φ h2
def HOk (H : Hp) (h : Heap) : Prop := ∀ a o, H a = some o → ObjOk P w H h a o
end

section
variable {P : Program} {w : World} {H H' : Hp} {h h' : Heap} {a : Addr} {o : HO}
theorem ObjOk.lt (x : ObjOk P w H h a o) : a < h.objs.size := by
  cases o with
  | lst xs => obtain ⟨_, _, _, _, e⟩ := x; exact Heap.lt_size e
  | tup xs => obtain ⟨_, _, _, _, e⟩ := x; exact Heap.lt_size e
  | dK kvs => obtain ⟨_, _, _, _, o, _, _, e, _⟩ := x; exact Heap.lt_size e
  | dT kvs => obtain ⟨_, _, _, _, o, _, _, e, _⟩ := x; exact Heap.lt_size e
  | set S n => obtain ⟨o, _, _, _, e, _⟩ := x; exact Heap.lt_size e
  | ins C dx fs => obtain ⟨_, _, _, e, _⟩ := x; exact Heap.lt_size e
  | own y => obtain ⟨_, e⟩ := x; exact Heap.lt_size e
  | xd fs => obtain ⟨_, ⟨_, _, _, e, _⟩, _⟩ := x; exact Heap.lt_size e
  | rng lo hi => obtain ⟨_, _, _, e⟩ := x; exact Heap.lt_size e
  | frz ob u => obtain ⟨e, _⟩ := x; exact Heap.lt_size e
  | tbl ps => exact Heap.lt_size (show h.get? a = some _ from x)
  | tab q => obtain ⟨_, e, _⟩ := x; exact Heap.lt_size e
  | met f y => exact Heap.lt_size (show h.get? a = some _ from x)
  | ext φ => obtain ⟨_, ⟨_, e⟩, _⟩ := x; exact Heap.lt_size e
theorem Paired.mapP {α β : Type} {F G : α → β → Prop} : ∀ {l₁ : List α} {l₂ : List β}, Paired F l₁ l₂ → (∀ a b, F a b → G a b) → Paired G l₁ l₂
  := by
  intro l₁ l₂ h f
  induction h with
  | nil => exact .nil
  | cons r t ih => exact .cons (f _ _ r) ih
theorem ObjOk.stay (x : ObjOk P w H h a o) (k : ∀ b u, (b = a ∨ H b = some (.own a)) → h.get? b = some u → h'.get? b = some u)
    (ho : ∀ b, H b = some (.own a) → H' b = some (.own a)) (ht : ∀ b xs, H b = some (.tup xs) → H' b = some (.tup xs)) : ObjOk P w H' h' a o := by
  induction o with
  | lst xs => obtain ⟨z, its, n, r, e⟩ := x; exact ⟨z, its, n, r, k _ _ (.inl rfl) e⟩
  | tup xs => obtain ⟨z, its, n, r, e⟩ := x; exact ⟨z, its, n, r, k _ _ (.inl rfl) e⟩
  | dK kvs => obtain ⟨z, y, vs, r, ob, es, ep, e, c⟩ := x; exact ⟨z, y, vs, r, ob, es, ep, k _ _ (.inl rfl) e, c⟩
  | dT kvs =>
    obtain ⟨z, y, xs, r, ob, es, ep, e, c⟩ := x
    exact ⟨z, y, xs, Paired.mapP r fun p q z => ⟨z.1, ht _ _ z.2.1, z.2.2⟩, ob, es, ep, k _ _ (.inl rfl) e, c⟩
  | set S n => obtain ⟨ob, es, ep, t, e, c⟩ := x; exact ⟨ob, es, ep, t, k _ _ (.inl rfl) e, c⟩
  | ins C dx fs =>
    obtain ⟨d, z, ne, e, mA, ⟨od, es, ep, e2, c⟩, r⟩ := x
    exact ⟨ho _ d, z, ne, k _ _ (.inl rfl) e, mA, ⟨od, es, ep, k _ _ (.inr d) e2, c⟩, r⟩
  | own y => obtain ⟨ob, e⟩ := x; exact ⟨ob, k _ _ (.inl rfl) e⟩
  | xd fs => obtain ⟨mA, ⟨od, es, ep, e, c⟩, r⟩ := x; exact ⟨mA, ⟨od, es, ep, k _ _ (.inl rfl) e, c⟩, r⟩
  | rng lo hi => obtain ⟨t, u, v, e⟩ := x; exact ⟨t, u, v, k _ _ (.inl rfl) e⟩
  | frz ob u ih => obtain ⟨e, q⟩ := x; exact ⟨k _ _ (.inl rfl) e, ih q⟩
  | tbl ps =>
    have e : h.get? a = some { cls := .none, data := .fields ps } := x
    show h'.get? a = some { cls := .none, data := .fields ps }
    exact k a _ (.inl rfl) e
  | tab q =>
    obtain ⟨ps, e, z, r⟩ := x
    refine ⟨ps, k _ _ (.inl rfl) e, z, fun pos cv q => ?_⟩
    obtain ⟨c, o, vs, t, r1, r2, r3, r4⟩ := r pos cv q
    exact ⟨c, o, vs, t, r1, ho _ r2, k _ _ (.inr r2) r3, r4⟩
  | met f y =>
    have e : h.get? a = some (PySem.W.methodObj (.ref f) (.ref y)) := x
    show h'.get? a = some (PySem.W.methodObj (.ref f) (.ref y))
    exact k a _ (.inl rfl) e
  | ext φ => obtain ⟨p, ⟨o, e⟩, st⟩ := x; exact ⟨st _ _ p fun o q => k _ _ (.inl rfl) q, ⟨o, k _ _ (.inl rfl) e⟩, st⟩
theorem HOk.lt (x : HOk P w H h) (e : H a = some o) : a < h.objs.size := (x a o e).lt
theorem HOk.fresh (x : HOk P w H h) (e : h.objs.size ≤ a) : H a = none := by
  cases q : H a with
  | none => rfl
  | some u => exact absurd (Nat.lt_of_lt_of_le (x.lt q) e) (Nat.lt_irrefl _)
theorem HOk.kept (x : HOk P w H h) (k : ∀ b u, h.get? b = some u → h'.get? b = some u) : HOk P w H h' := fun a o e =>
  (x a o e).stay (fun b u _ q => k b u q) (fun _ q => q) fun _ _ q => q
theorem HOk.laid (x : HOk P w H h) (k : ∀ b u, h.get? b = some u → h'.get? b = some u) (hp : h.objs.size ≤ a) (new : ObjOk P w (upd H a o) h' a o) : HOk P w (upd H a o) h' := fun b u e => by
  have hn := x.fresh hp
  by_cases hb : b = a
  · subst hb; rw [upd_same] at e; cases e; exact new
  · rw [upd_ne hb] at e
    exact (x b u e).stay (fun c v _ q => k c v q) (fun c q => by rw [upd_ne (ne_of_none q hn)]; exact q) fun c xs q => by rw [upd_ne (ne_of_none q hn)]; exact q
end

def Rd (H : Hp) (a : Addr) (u : HO) : Prop := H a = some u ∨ ∃ o, H a = some (.frz o u)
theorem Rd.of {H : Hp} {a : Addr} {u : HO} (h : H a = some u) : Rd H a u := .inl h
theorem Rd.ok {P : Program} {w : World} {H : Hp} {h : Heap} {a : Addr} {u : HO} (r : Rd H a u) (x : HOk P w H h) : ObjOk P w H h a u := by
  rcases r with r | ⟨o, r⟩
  · exact x a u r
  · obtain ⟨_, q⟩ := x a _ r
    exact q
def Mut : Option HO → Prop
  | some (.lst _) => True
  | some (.dK _) => True
  | some (.dT _) => True
  | some (.set _ _) => True
  | some (.ins _ _ _) => True
  | some (.ext _) => True
  | some (.tab _) => True
  | _ => False
section
variable {P : Program} {w : World} {H : Hp} {h h' : Heap} {x e : Addr} {o' : HO}
theorem HOk.write (ok : HOk P w H h) (mu : Mut (H x)) (he : e = x ∨ H e = some (.own x)) (k : ∀ b u, b ≠ e → h.get? b = some u → h'.get? b = some u) (heo : ∃ u, h'.get? e = some u)
    (new : ObjOk P w (upd H x o') h' x o') : HOk P w (upd H x o') h' := fun b u q => by
  have nown : ∀ c y, H c = some (.own y) → c ≠ x := fun c y r z => by subst z; rw [r] at mu; exact mu
  have ntup : ∀ c xs, H c = some (.tup xs) → c ≠ x := fun c xs r z => by subst z; rw [r] at mu; exact mu
  by_cases hb : b = x
  · subst hb; rw [upd_same] at q; cases q; exact new
  · rw [upd_ne hb] at q
    by_cases hbe : b = e
    · have q' : H b = some (.own x) := by
        rcases he with z | z
        · exact absurd (hbe.trans z) hb
        · rw [hbe]; exact z
      rw [q] at q'; cases q'
      obtain ⟨v, hv⟩ := heo
      exact ⟨v, by rw [hbe]; exact hv⟩
    · refine (ok b u q).stay (fun c v hc r => k c v ?_ r) (fun c r => by rw [upd_ne (nown c b r)]; exact r) fun c xs r => by rw [upd_ne (ntup c xs r)]; exact r
      rcases hc with rfl | hc
      · exact hbe
      · rintro rfl
        rcases he with z | z
        · exact nown c b hc z
        · rw [hc] at z; cases z; exact hb rfl
end

structure Un (fs ex : List Addr) (H H' : Hp) (h h' : Heap) : Prop where
  keep : ∀ b o, h.get? b = some o → H b = none → b ∉ fs → b ∉ ex → h'.get? b = some o
  slot : ∀ b o, h.get? b = some o → H b = none → b ∈ fs → b ∉ ex → ∃ sl, h'.get? b = some { o with slots := sl }
  free : ∀ b o, h.get? b = some o → H b = none → b ∉ ex → H' b = none
  there : ∀ b o, h.get? b = some o → b ∉ ex → ∃ o', h'.get? b = some o'
  tups : ∀ b xs, H b = some (.tup xs) → H' b = some (.tup xs)
  frzs : ∀ b o u, H b = some (.frz o u) → H' b = some (.frz o u)
  tbls : ∀ b ps, H b = some (.tbl ps) → ∃ more, H' b = some (.tbl (ps ++ more))
section
variable {fs fs' ex ex' : List Addr} {H H1 H2 : Hp} {h h1 h2 h' : Heap} {a x e : Addr} {o : HO}
theorem Un.any (u : Un fs ex H H1 h h1) {b : Addr} {ob : Obj} (q : h.get? b = some ob) (n : H b = none) (hx : b ∉ ex) : ∃ sl, h1.get? b = some { ob with slots := sl } := by
  by_cases hb : b ∈ fs
  · exact u.slot b ob q n hb hx
  · exact ⟨ob.slots, u.keep b ob q n hb hx⟩
theorem Un.trans (a : Un fs ex H H1 h h1) (b : Un fs ex H1 H2 h1 h2) : Un fs ex H H2 h h2 where
  keep := fun c ob q n hc hx => b.keep c ob (a.keep c ob q n hc hx) (a.free c ob q n hx) hc hx
  slot := fun c ob q n hc hx => by
    obtain ⟨sl, e1⟩ := a.slot c ob q n hc hx
    obtain ⟨sl', e2⟩ := b.slot c _ e1 (a.free c ob q n hx) hc hx
    exact ⟨sl', e2⟩
  free := fun c ob q n hx => by
    obtain ⟨o', e1⟩ := a.there c ob q hx
    exact b.free c o' e1 (a.free c ob q n hx) hx
  there := fun c ob q hx => by
    obtain ⟨o', e1⟩ := a.there c ob q hx
    exact b.there c o' e1 hx
  tups := fun c xs q => b.tups c xs (a.tups c xs q)
  frzs := fun c ob xs q => b.frzs c ob xs (a.frzs c ob xs q)
  tbls := fun c ps q => by
    obtain ⟨m1, e1⟩ := a.tbls c ps q
    obtain ⟨m2, e2⟩ := b.tbls c _ e1
    exact ⟨m1 ++ m2, by rw [e2, Array.append_assoc]⟩
theorem Un.kept (k : ∀ b u, h.get? b = some u → h'.get? b = some u) : Un fs ex H H h h' :=
  ⟨fun b ob q _ _ _ => k b ob q, fun b ob q _ _ _ => ⟨ob.slots, k b ob q⟩, fun _ _ _ n _ => n, fun b ob q _ => ⟨ob, k b ob q⟩, fun _ _ q => q, fun _ _ _ q => q, fun _ ps q => ⟨#[], by rw [q]; simp⟩⟩
theorem Un.refl : Un fs ex H H h h := Un.kept fun _ _ q => q
theorem Un.laid (k : ∀ b u, h.get? b = some u → h'.get? b = some u) (hp : h.objs.size ≤ a) (hn : H a = none) : Un fs ex H (upd H a o) h h' where
  keep := fun b u q _ _ _ => k b u q
  slot := fun b u q _ _ _ => ⟨u.slots, k b u q⟩
  free := fun b u q n _ => by rw [upd_ne (Nat.ne_of_lt (Nat.lt_of_lt_of_le (Heap.lt_size q) hp))]; exact n
  there := fun b u q _ => ⟨u, k b u q⟩
  tups := fun b xs q => by rw [upd_ne (ne_of_none q hn)]; exact q
  frzs := fun b u xs q => by rw [upd_ne (ne_of_none q hn)]; exact q
  tbls := fun b ps q => ⟨#[], by rw [upd_ne (ne_of_none q hn), q]; simp⟩
theorem Un.write (mu : Mut (H x)) (he : e = x ∨ H e = some (.own x)) (k : ∀ b u, b ≠ e → h.get? b = some u → h'.get? b = some u) (heo : ∃ u, h'.get? e = some u) : Un fs ex H (upd H x o) h h' := by
  have hx : ∀ b, H b = none → b ≠ x := fun b n z => by subst z; rw [n] at mu; exact mu
  have hb : ∀ b, H b = none → b ≠ e := fun b n z => by
    subst z
    rcases he with r | r
    · exact hx b n r
    · rw [n] at r; cases r
  have hm : ∀ b u, H b = some u → ¬ Mut (some u) → b ≠ x := fun b u q nm z => by subst z; rw [q] at mu; exact nm mu
  refine ⟨fun b u q n _ _ => k b u (hb b n) q, fun b u q n _ _ => ⟨u.slots, k b u (hb b n) q⟩, fun b u q n _ => by rw [upd_ne (hx b n)]; exact n, fun b u q _ => ?_,
    fun b xs q => by rw [upd_ne (hm b _ q fun z => z)]; exact q, fun b u xs q => by rw [upd_ne (hm b _ q fun z => z)]; exact q, fun b ps q => ⟨#[], by rw [upd_ne (hm b _ q fun z => z), q]; simp⟩⟩
  by_cases hbe : b = e
  · subst hbe; exact heo
  · exact ⟨u, k b u hbe q⟩
theorem Un.mono (u : Un fs ex H H1 h h1) (hs : ∀ b ∈ fs, b ∈ fs') (hx : ∀ b ∈ ex, b ∈ ex') : Un fs' ex' H H1 h h1 :=
  ⟨fun b ob q n hb he => u.keep b ob q n (fun z => hb (hs b z)) fun z => he (hx b z), fun _ _ q n _ he => u.any q n fun z => he (hx _ z), fun b ob q n he => u.free b ob q n fun z => he (hx b z), fun b ob q he => u.there b ob q fun z => he (hx b z), u.tups, u.frzs, u.tbls⟩
end

def trk (h : Heap) (H : Hp) : List Addr := (List.range h.objs.size).filter fun a => (H a).isSome
def hidT (h : Heap) (H : Hp) : Heap := PySem.W.hideAll h (trk h H)
theorem hidT_size (h : Heap) (H : Hp) : (hidT h H).objs.size = h.objs.size := PySem.W.hideAll_size _ _
theorem hidT_get {h : Heap} {H : Hp} {b : Addr} {o : Obj} (e : h.get? b = some o) (n : H b = none) : (hidT h H).get? b = some o :=
  PySem.W.hideAll_get _ e fun hm => by
    have q : (H b).isSome = true := (List.mem_filter.mp hm).2
    rw [n] at q; simp at q
theorem of_hidT {h : Heap} {H : Hp} {b : Addr} {o : Obj} (e : (hidT h H).get? b = some o) : h.get? b = some o ∧ H b = none := by
  have e' : h.get? b = some o := PySem.W.of_hideAll (trk h H) e
  refine ⟨e', ?_⟩
  cases q : H b with
  | none => rfl
  | some x =>
    have hm : b ∈ trk h H := List.mem_filter.mpr ⟨List.mem_range.mpr (Heap.lt_size e'), by simp [q]⟩
    have z : (hidT h H).get? b = none := PySem.W.hideAll_none (trk h H) hm
    rw [z] at e; cases e

def allNews (g h : Heap) (L : Addr) : List (Addr × Obj) := (List.range h.objs.size).filterMap fun a => if a = L ∨ (g.get? a).isSome = true then none else (h.get? a).map fun o => (a, o)
def rest (g h : Heap) (L d : Addr) : List (Addr × Obj) := (allNews g h L).filter fun p => decide (p.1 ≠ d)
end L2

namespace L2
open PySem PySem.Spec PyProof.Rows

structure Mod (K : PySem.W.Frag) (mg : Str → Option Value) (base : Heap) : Prop where
  kin : K.In base
  glob : base.Ns mainGlobals mg
  blt : ∃ mb, base.Ns builtinsNs mb ∧ ∀ x : Str, x ≠ "__name__" → mb x = bootBuiltins x
  nolimit : base.NoLimit
  mods : ∃ mm, base.Ns sysModules mm

structure Cx where
  prog : Program
  w : World
  K : PySem.W.Frag
  mg : Str → Option Value
  base : Heap
  A : Around
  N : List Str
  s₀ : Shared
  H₀ : Hp
  env : Env
  outer : List Env
  stack : List Env
  ex : List Addr
  fn : Str → Bool
  calm : Bool
  pn : List (Addr × Obj)
  xe : Value → Shared → Prop
def frs (l : List Env) : List Addr := l.filterMap (·.frame)
abbrev Cx.fs (X : Cx) : List Addr := frs X.outer

def Vis (sc : Scope) (x : Str) : Prop := sc.names.lookup x = some .local ∨ sc.names.lookup x = some .cell ∨ sc.names.lookup x = some .free
def Loc (sc : Scope) (x : Str) : Prop := sc.names.lookup x = some .local ∨ sc.names.lookup x = some .cell
def Look (env : Env) (h : Heap) (m : Str → Option Value) (x : Str) (u : Value) : Prop :=
  (env.kindOf x = some .local ∧ m x = some u) ∨ ((env.kindOf x = some .cell ∨ env.kindOf x = some .free) ∧ ∃ c, env.cells.lookup x = some c ∧ h.IsCell c (some u))

structure Cx.Ok (X : Cx) : Prop where
  mod : Mod X.K X.mg X.base
  kind : X.env.scope.kind = .function
  glob : X.env.globals = mainGlobals
  blt : X.env.builtins = builtinsNs
  above : X.s₀.heap.objs.size ≤ X.env.locals
  inj : ∀ x y c, X.env.cells.lookup x = some c → X.env.cells.lookup y = some c → x = y
  has : ∀ x, (X.env.kindOf x = some .cell ∨ X.env.kindOf x = some .free) → ∃ c, X.env.cells.lookup x = some c
  cab : ∀ x c, X.fn x = true → X.env.cells.lookup x = some c → X.s₀.heap.objs.size ≤ c
  hd : X.calm = true → X.A.handled = none
  frames : X.A.frames = some X.stack
  stk : X.stack = X.outer ∨ (X.stack = X.env :: X.outer ∧ X.env.frame = some X.env.locals)
  exf : ∀ b ∈ X.ex, b ≠ X.env.locals ∧ ∀ x c, X.env.cells.lookup x = some c → c ≠ b
  bs : ∀ b o, X.base.get? b = some o → X.s₀.heap.get? b = some o ∧ X.H₀ b = none
  bsz : X.base.objs.size ≤ X.s₀.heap.objs.size
  noex : ∀ b o, X.base.get? b = some o → b ∉ X.ex
  exfs : ∀ b ∈ X.ex, b ∉ X.fs
  funs : X.s₀.heap.FunFrames X.base X.outer
  frf : ∀ b ∈ X.fs, X.H₀ b = none

structure Inv (X : Cx) (pins : List (Addr × Obj)) (σ : List (Option V)) (H : Hp) (s : Shared) : Prop where
  ok : X.Ok
  os : s.os = X.s₀.os
  bare : AllBare s.gens
  base : Un X.fs X.ex X.H₀ H X.s₀.heap s.heap
  loc : ∃ m, s.heap.Ns X.env.locals m ∧ ∀ (i : Nat) (x : Str) (v : V), X.N[i]? = some x → σ[i]? = some (some v) → Vis X.env.scope x → ∃ u, RelV v u ∧ Look X.env s.heap m x u
  cell : ∀ x c, X.env.cells.lookup x = some c → ∃ v, s.heap.IsCell c v
  free : H X.env.locals = none
  freeC : ∀ x c, X.env.cells.lookup x = some c → H c = none
  pin : ∀ p ∈ X.pn ++ pins, s.heap.get? p.1 = some p.2 ∧ H p.1 = none ∧ p.1 ≠ X.env.locals ∧ p.1 ∉ X.fs ∧ ∀ v, p.2.data ≠ .cell v
  hok : HOk X.prog X.w H s.heap
  len : σ.length = X.N.length

section
variable {X : Cx} {pins : List (Addr × Obj)} {σ : List (Option V)} {H H' : Hp} {s : Shared} {h' : Heap}

theorem Cx.Ok.nofr (ok : X.Ok) {b : Addr} {o : Obj} (e : X.base.get? b = some o) : b ∉ X.fs := fun hb => by
  have := (ok.funs.mem hb).1
  rw [e] at this; cases this
theorem Inv.bs (I : Inv X pins σ H s) : ∀ b o, X.base.get? b = some o → s.heap.get? b = some o ∧ H b = none := fun b o e =>
  ⟨I.base.keep b o (I.ok.bs b o e).1 (I.ok.bs b o e).2 (I.ok.nofr e) (I.ok.noex b o e), I.base.free b o (I.ok.bs b o e).1 (I.ok.bs b o e).2 (I.ok.noex b o e)⟩
theorem Inv.bk (I : Inv X pins σ H s) : ∀ b o, X.base.get? b = some o → s.heap.get? b = some o := fun b o e => (I.bs b o e).1
theorem Inv.mod (I : Inv X pins σ H s) : Mod X.K X.mg X.base := I.ok.mod
theorem Inv.kIn (I : Inv X pins σ H s) : X.K.In s.heap := I.ok.mod.kin.keeps I.bk
theorem Inv.nolimit (I : Inv X pins σ H s) : s.heap.NoLimit := I.ok.mod.nolimit.keeps I.bk
theorem Inv.fr (I : Inv X pins σ H s) : ∃ m, Fr X.base X.env.locals s.heap m :=
  let ⟨m, hn, _⟩ := I.loc
  ⟨m, hn, I.bk, Nat.le_trans I.ok.bsz I.ok.above⟩
theorem Inv.lt (I : Inv X pins σ H s) : X.env.locals < s.heap.objs.size := let ⟨_, hn, _⟩ := I.loc; hn.lt
theorem Inv.sz (I : Inv X pins σ H s) : X.s₀.heap.objs.size ≤ s.heap.objs.size := Nat.le_trans I.ok.above (Nat.le_of_lt I.lt)
theorem Inv.nofs (I : Inv X pins σ H s) {a : Addr} (h : s.heap.objs.size ≤ a) : a ∉ X.fs := fun hb => by
  obtain ⟨_, o, ho, _⟩ := I.ok.funs.mem hb
  exact absurd (Nat.lt_of_lt_of_le (Heap.lt_size ho) (Nat.le_trans I.sz h)) (Nat.lt_irrefl _)
theorem Inv.cne (I : Inv X pins σ H s) : ∀ x c, X.env.cells.lookup x = some c → c ≠ X.env.locals := fun x c e z => by
  obtain ⟨v, o, ho, hd⟩ := I.cell x c e
  obtain ⟨m, ⟨o', es, ep, ho', hd', _⟩, _⟩ := I.loc
  rw [z, ho'] at ho; cases ho; rw [hd'] at hd; cases hd
theorem Inv.funs (I : Inv X pins σ H s) : s.heap.FunFrames X.base X.outer := by
  have all : ∀ (l : List Env), (∀ b ∈ frs l, b ∈ X.fs) → X.s₀.heap.FunFrames X.base l → s.heap.FunFrames X.base l := by
    intro l
    induction l with
    | nil => intro _ _; trivial
    | cons env r ih =>
      intro hs hl
      obtain ⟨hk, ⟨L, o, hf, hn, ho, hd⟩, hr⟩ := hl
      have hL : L ∈ X.fs := hs L (by unfold frs; rw [List.filterMap_cons, hf]; exact List.mem_cons_self)
      obtain ⟨sl, e⟩ := I.base.slot L o ho (I.ok.frf L hL) hL fun z => I.ok.exfs L z hL
      exact ⟨hk, ⟨L, _, hf, hn, e, hd⟩, ih (fun b hb => hs b (by unfold frs; rw [List.filterMap_cons, hf]; exact List.mem_cons_of_mem _ hb)) hr⟩
  exact all X.outer (fun _ hb => hb) I.ok.funs

theorem Inv.stack (I : Inv X pins σ H s) : s.heap.FunFrames X.base X.stack := by
  rcases I.ok.stk with e | ⟨e, hf⟩
  · rw [e]; exact I.funs
  · rw [e]
    obtain ⟨m, hn, _⟩ := I.loc
    refine .cons (by rw [I.ok.kind]; decide) hf hn ?_ I.funs
    exact Heap.get?_none_of_le (Nat.le_trans I.ok.bsz I.ok.above)
theorem Inv.stkSub (I : Inv X pins σ H s) : ∀ b ∈ frs X.stack, b ∈ X.env.locals :: X.fs := fun b hb => by
  rcases I.ok.stk with e | ⟨e, hf⟩
  · rw [e] at hb; exact List.mem_cons_of_mem _ hb
  · rw [e] at hb
    unfold frs at hb
    rw [List.filterMap_cons, hf] at hb
    exact hb
theorem Inv.stkFree (I : Inv X pins σ H s) : ∀ b ∈ frs X.stack, H b = none := fun b hb => by
  rcases List.mem_cons.mp (I.stkSub b hb) with e | hb
  · rw [e]; exact I.free
  · obtain ⟨_, o, ho, _⟩ := I.ok.funs.mem hb
    exact I.base.free b o ho (I.ok.frf b hb) fun z => I.ok.exfs b z hb

theorem Inv.step {g' : Array GenState} {t' : Nat} {d' : Drawn} {ch : List Addr} (I : Inv X pins σ H s)
    (hch : ∀ b ∈ ch, (b ∈ X.ex ∨ X.s₀.heap.objs.size ≤ b) ∧ b ≠ X.env.locals ∧ (∀ x c, X.env.cells.lookup x = some c → c ≠ b) ∧ ∀ p ∈ X.pn ++ pins, p.1 ≠ b)
    (keep : ∀ b o, b ≠ X.env.locals → b ∉ X.fs → b ∉ ch → s.heap.get? b = some o → H b = none → h'.get? b = some o)
    (slot : ∀ b o, b ≠ X.env.locals → b ∈ X.fs → b ∉ ch → s.heap.get? b = some o → H b = none → ∃ sl, h'.get? b = some { o with slots := sl }) (free : ∀ b o, b ∉ ch → s.heap.get? b = some o → H b = none → H' b = none)
    (there : ∀ b o, b ∉ ch → s.heap.get? b = some o → ∃ o', h'.get? b = some o')
    (tups : ∀ b xs, H b = some (.tup xs) → H' b = some (.tup xs)) (frzs : ∀ b o u, H b = some (.frz o u) → H' b = some (.frz o u)) (tbls : ∀ b ps, H b = some (.tbl ps) → ∃ more, H' b = some (.tbl (ps ++ more)))
    (ns : ∀ m, s.heap.Ns X.env.locals m → h'.Ns X.env.locals m) (hok : HOk X.prog X.w H' h') (hg : AllBare g') :
    Inv X pins σ H' { s with heap := h', gens := g', drawn := d', toks := t' } := by
  have neL : ∀ b o, X.s₀.heap.get? b = some o → b ≠ X.env.locals := fun b o e => Nat.ne_of_lt (Nat.lt_of_lt_of_le (Heap.lt_size e) I.ok.above)
  have neC : ∀ b o, X.s₀.heap.get? b = some o → b ∉ X.ex → b ∉ ch := fun b o e hx hb => by
    rcases (hch b hb).1 with z | z
    · exact hx z
    · exact absurd (Nat.lt_of_lt_of_le (Heap.lt_size e) z) (Nat.lt_irrefl _)
  have cellK : ∀ x c, X.env.cells.lookup x = some c → ∀ v, s.heap.IsCell c v → h'.IsCell c v := fun x c e v ⟨o, ho, hd⟩ => by
    have nch : c ∉ ch := fun z => (hch c z).2.2.1 x c e rfl
    by_cases hc : c ∈ X.fs
    · obtain ⟨sl, q⟩ := slot c o (I.cne x c e) hc nch ho (I.freeC x c e)
      exact ⟨_, q, hd⟩
    · exact ⟨o, keep c o (I.cne x c e) hc nch ho (I.freeC x c e), hd⟩
  refine ⟨I.ok, I.os, hg, ⟨fun b o e n hb hx => ?_, fun b o e n hb hx => ?_, fun b o e n hx => ?_, fun b o e hx => ?_, fun b xs e => tups b xs (I.base.tups b xs e), fun b o xs e => frzs b o xs (I.base.frzs b o xs e), fun b ps e => ?_⟩, ?_, fun x c e => ?_, ?_, fun x c e => ?_, fun p hp => ?_, hok, I.len⟩
  · exact keep b o (neL b o e) hb (neC b o e hx) (I.base.keep b o e n hb hx) (I.base.free b o e n hx)
  · obtain ⟨sl, e1⟩ := I.base.slot b o e n hb hx
    obtain ⟨sl', e2⟩ := slot b _ (neL b o e) hb (neC b o e hx) e1 (I.base.free b o e n hx)
    exact ⟨sl', e2⟩
  · obtain ⟨o', e1⟩ := I.base.there b o e hx
    exact free b o' (neC b o e hx) e1 (I.base.free b o e n hx)
  · obtain ⟨o', e1⟩ := I.base.there b o e hx
    exact there b o' (neC b o e hx) e1
  · obtain ⟨m1, e1⟩ := I.base.tbls b ps e
    obtain ⟨m2, e2⟩ := tbls b _ e1
    exact ⟨m1 ++ m2, by rw [e2, Array.append_assoc]⟩
  · obtain ⟨m, hn, hl⟩ := I.loc
    refine ⟨m, ns m hn, fun i x v e1 e2 e3 => ?_⟩
    obtain ⟨u, r, l⟩ := hl i x v e1 e2 e3
    refine ⟨u, r, ?_⟩
    rcases l with l | ⟨k, c, e, z⟩
    · exact .inl l
    · exact .inr ⟨k, c, e, cellK x c e _ z⟩
  · obtain ⟨v, z⟩ := I.cell x c e
    exact ⟨v, cellK x c e v z⟩
  · obtain ⟨m, ⟨o, _, _, ho, _⟩, _⟩ := I.loc
    exact free _ o (fun z => (hch _ z).2.1 rfl) ho I.free
  · obtain ⟨v, o, ho, hd⟩ := I.cell x c e
    exact free c o (fun z => (hch c z).2.2.1 x c e rfl) ho (I.freeC x c e)
  · obtain ⟨e, n, ne, nf, d⟩ := I.pin p hp
    have nch : p.1 ∉ ch := fun z => (hch p.1 z).2.2.2 p hp rfl
    exact ⟨keep p.1 p.2 ne nf nch e n, free p.1 p.2 nch e n, ne, nf, d⟩
theorem Inv.un {t' : Nat} (I : Inv X pins σ H s) (u : Un X.fs [] H H' s.heap h') (hok : HOk X.prog X.w H' h') : Inv X pins σ H' { s with heap := h', toks := t' } := by
  obtain ⟨m, ⟨o, es, ep, ho, r⟩, _⟩ := id I.loc
  obtain ⟨sl, hL⟩ := u.any ho I.free (by simp)
  exact I.step (g' := s.gens) (d' := s.drawn) (ch := []) (fun _ z => nomatch z) (fun b o _ hb _ e n => u.keep b o e n hb (by simp)) (fun b o _ hb _ e n => u.slot b o e n hb (by simp)) (fun b o _ e n => u.free b o e n (by simp)) (fun b o _ e => u.there b o e (by simp)) u.tups u.frzs u.tbls (fun m' hm => by
    obtain ⟨o', es', ep', ho', r'⟩ := hm
    rw [ho] at ho'; cases ho'
    exact ⟨_, es', ep', hL, r'⟩) hok I.bare
theorem Inv.call {g' : Array GenState} {t' : Nat} {d' : Drawn} {ch : List Addr} (I : Inv X pins σ H s) (u : Un (frs X.stack) ch H H' s.heap h') (hok : HOk X.prog X.w H' h') (hg : AllBare g')
    (hch : ∀ b ∈ ch, (b ∈ X.ex ∨ X.s₀.heap.objs.size ≤ b) ∧ b ≠ X.env.locals ∧ (∀ x c, X.env.cells.lookup x = some c → c ≠ b) ∧ ∀ p ∈ X.pn ++ pins, p.1 ≠ b) :
    Inv X pins σ H' { s with heap := h', gens := g', drawn := d', toks := t' } := by
  obtain ⟨m, ⟨o, es, ep, ho, r⟩, _⟩ := id I.loc
  obtain ⟨sl, hL⟩ := u.any ho I.free fun z => (hch _ z).2.1 rfl
  exact I.step (ch := ch) hch (fun b o hL hb hc e n => u.keep b o e n (fun z => (List.mem_cons.mp (I.stkSub b z)).elim hL hb) hc) (fun b o _ _ hc e n => u.any e n hc) (fun b o hc e n => u.free b o e n hc) (fun b o hc e => u.there b o e hc) u.tups u.frzs u.tbls (fun m' hm => by
    obtain ⟨o', es', ep', ho', r'⟩ := hm
    rw [ho] at ho'; cases ho'
    exact ⟨_, es', ep', hL, r'⟩) hok hg
theorem Inv.turned {t' : Nat} {it : Addr} (I : Inv X pins σ H s) (k : ∀ b o, b ≠ it → s.heap.get? b = some o → h'.get? b = some o) (hn : H it = none) (hL : it ≠ X.env.locals)
    (h1 : it ∈ X.ex ∨ X.s₀.heap.objs.size ≤ it) (h2 : ∀ x c, X.env.cells.lookup x = some c → c ≠ it) (h3 : ∀ p ∈ X.pn ++ pins, p.1 ≠ it) : Inv X pins σ H { s with heap := h', toks := t' } := by
  have nit : ∀ b u, H b = some u → b ≠ it := fun b u e z => by rw [z, hn] at e; cases e
  refine I.step (g' := s.gens) (d' := s.drawn) (ch := [it]) (fun b hb => ?_) (fun b o _ _ hc e _ => k b o (fun z => hc (by simp [z])) e) (fun b o _ _ hc e _ => ⟨o.slots, k b o (fun z => hc (by simp [z])) e⟩) (fun _ _ _ _ n => n)
    (fun b o hc e => ⟨o, k b o (fun z => hc (by simp [z])) e⟩) (fun _ _ e => e) (fun _ _ _ e => e) (fun b ps e => ⟨#[], by rw [e]; simp⟩) (fun m hm => ?_) (fun b u e => ?_) I.bare
  · have e : b = it := by simpa using hb
    subst e
    exact ⟨h1, hL, h2, h3⟩
  · obtain ⟨o, es, ep, ho, r⟩ := hm
    exact ⟨o, es, ep, k _ o (Ne.symm hL) ho, r⟩
  · refine (I.hok b u e).stay (fun c v hc q => k c v ?_ q) (fun _ q => q) fun _ _ q => q
    rcases hc with z | z
    · rw [z]; exact nit b u e
    · exact nit c _ z
theorem Inv.tok (I : Inv X pins σ H s) (t : Nat) : Inv X pins σ H { s with toks := t } := I.un (h' := s.heap) (t' := t) Un.refl I.hok
theorem Inv.kept {t' : Nat} (I : Inv X pins σ H s) (k : ∀ b u, s.heap.get? b = some u → h'.get? b = some u) : Inv X pins σ H { s with heap := h', toks := t' } := I.un (Un.kept k) (I.hok.kept k)
theorem Inv.laid {a : Addr} {o : HO} {t' : Nat} (I : Inv X pins σ H s) (k : ∀ b u, s.heap.get? b = some u → h'.get? b = some u) (hp : s.heap.objs.size ≤ a) (new : ObjOk X.prog X.w (upd H a o) h' a o) :
    Inv X pins σ (upd H a o) { s with heap := h', toks := t' } := I.un (Un.laid k hp (I.hok.fresh hp)) (I.hok.laid k hp new)
theorem Inv.write {x e : Addr} {o : HO} {t' : Nat} (I : Inv X pins σ H s) (mu : Mut (H x)) (he : e = x ∨ H e = some (.own x)) (k : ∀ b u, b ≠ e → s.heap.get? b = some u → h'.get? b = some u) (heo : ∃ u, h'.get? e = some u)
    (new : ObjOk X.prog X.w (upd H x o) h' x o) : Inv X pins σ (upd H x o) { s with heap := h', toks := t' } := I.un (Un.write mu he k heo) (I.hok.write mu he k heo new)
theorem Inv.pins_of {pins' : List (Addr × Obj)} (I : Inv X pins σ H s) (h : ∀ p ∈ pins', s.heap.get? p.1 = some p.2 ∧ H p.1 = none ∧ p.1 ≠ X.env.locals ∧ p.1 ∉ X.fs ∧ ∀ v, p.2.data ≠ .cell v) : Inv X pins' σ H s :=
  ⟨I.ok, I.os, I.bare, I.base, I.loc, I.cell, I.free, I.freeC, fun p hp => (List.mem_append.mp hp).elim (fun z => I.pin p (List.mem_append_left _ z)) (h p), I.hok, I.len⟩

theorem nodup_ix {N : List Str} (hN : N.Nodup) {i j : Nat} {x : Str} (a : N[i]? = some x) (b : N[j]? = some x) : i = j := by
  obtain ⟨h1, e1⟩ := List.getElem?_eq_some_iff.mp a
  obtain ⟨h2, e2⟩ := List.getElem?_eq_some_iff.mp b
  exact (List.getElem_inj hN).mp (e1.trans e2.symm)

theorem store_ok2 {M : Model} {A : Around} {E : Value → Shared → Prop} {i : Nat} {x : Str} {v : V} {u : Value} {Q : Unit → Shared → Prop} (I : Inv X pins σ H s) (hN : X.N.Nodup) (hi : X.N[i]? = some x) (hx : Loc X.env.scope x) (r : RelV v u)
    (h : ∀ s', Inv X pins (σ.set i (some v)) H s' → (∃ a, Heap.SameBut a s.heap s'.heap ∧ (a = X.env.locals ∨ X.env.cells.lookup x = some a)) → Q () s') (hf : X.fn x = true ∨ X.env.scope.names.lookup x = some .local := by first | exact .inl rfl | exact .inr rfl | assumption) : wpAny M A (storeName X.env x u) Q E s := by
  obtain ⟨m, hn, hl⟩ := id I.loc
  have hcls : (X.env.scope.kind == .class || (X.env.scope.kind == .module && X.env.locals != X.env.globals)) = false := by rw [I.ok.kind]; rfl
  have hiσ : i < σ.length := by rw [I.len]; exact (List.getElem?_eq_some_iff.mp hi).1
  have cne := I.cne
  have tracked : ∀ {a : Addr} {h' : Heap}, (∃ o, s.heap.get? a = some o ∧ H a = none) → Heap.SameBut a s.heap h' → HOk X.prog X.w H h' := fun {a h'} ha hs b ob e => by
    obtain ⟨_, _, hfree⟩ := ha
    refine (I.hok b ob e).stay (fun c w' hc q => (hs.2 c ?_).trans q) (fun _ q => q) fun _ _ q => q
    rintro rfl
    rcases hc with rfl | hc
    · rw [hfree] at e; cases e
    · rw [hfree] at hc; cases hc
  rcases hx with hk | hk
  · refine wpAny_storeName_local hk hn (fun h' hn' hs => ?_) hcls
    obtain ⟨oL, _, _, hoL, _⟩ := id hn
    refine h _ ⟨I.ok, I.os, I.bare, ⟨fun b o e n hb hx => ?_, fun b o e n hb hx => ?_, I.base.free, fun b o e hx => ?_, I.base.tups, I.base.frzs, I.base.tbls⟩, ⟨_, hn', fun j y v' e1 e2 e3 => ?_⟩, fun y c e => ?_, I.free, I.freeC, fun p hp => ?_, tracked ⟨oL, hoL, I.free⟩ hs, by simpa using I.len⟩ ⟨_, hs, .inl rfl⟩
    · exact (hs.2 b (Nat.ne_of_lt (Nat.lt_of_lt_of_le (Heap.lt_size e) I.ok.above))).trans (I.base.keep b o e n hb hx)
    · obtain ⟨sl, e1⟩ := I.base.slot b o e n hb hx
      exact ⟨sl, (hs.2 b (Nat.ne_of_lt (Nat.lt_of_lt_of_le (Heap.lt_size e) I.ok.above))).trans e1⟩
    · obtain ⟨o', e1⟩ := I.base.there b o e hx
      exact ⟨o', (hs.2 b (Nat.ne_of_lt (Nat.lt_of_lt_of_le (Heap.lt_size e) I.ok.above))).trans e1⟩
    · by_cases hj : j = i
      · subst hj
        rw [hi] at e1; cases e1
        rw [List.getElem?_set_self hiσ] at e2
        cases e2
        exact ⟨u, r, .inl ⟨hk, by simp⟩⟩
      · rw [List.getElem?_set_ne (Ne.symm hj)] at e2
        obtain ⟨u', r', q⟩ := hl j y v' e1 e2 e3
        refine ⟨u', r', ?_⟩
        rcases q with ⟨k, e⟩ | ⟨k, c, e, z⟩
        · refine .inl ⟨k, ?_⟩
          have : y ≠ x := fun e => hj (nodup_ix hN e1 (e ▸ hi))
          simp [this, e]
        · exact .inr ⟨k, c, e, z.sameBut hs (cne y c e)⟩
    · obtain ⟨w', z⟩ := I.cell y c e
      exact ⟨w', z.sameBut hs (cne y c e)⟩
    · obtain ⟨e, n, ne, nf, d⟩ := I.pin p hp
      exact ⟨(hs.2 p.1 ne).trans e, n, ne, nf, d⟩
  · have hfn : X.fn x = true := by
      rcases hf with z | z
      · exact z
      · rw [z] at hk; cases hk
    obtain ⟨c, hc⟩ := I.ok.has x (.inl hk)
    obtain ⟨w', z⟩ := I.cell x c hc
    refine wpAny_storeName_cell I.ok.kind hk hc z (fun h' hc' hs => ?_)
    obtain ⟨oc, hoc, hocd⟩ := id z
    refine h { s with heap := h' } ⟨I.ok, I.os, I.bare, ⟨fun b o e n hb hx => ?_, fun b o e n hb hx => ?_, I.base.free, fun b o e hx => ?_, I.base.tups, I.base.frzs, I.base.tbls⟩, ⟨m, hn.sameBut hs (Ne.symm (cne x c hc)), fun j y v' e1 e2 e3 => ?_⟩, fun y c' e => ?_, I.free, I.freeC, fun p hp => ?_, tracked ⟨oc, hoc, I.freeC x c hc⟩ hs, by simpa using I.len⟩ ⟨c, hs, .inr hc⟩
    · exact (hs.2 b (Nat.ne_of_lt (Nat.lt_of_lt_of_le (Heap.lt_size e) (I.ok.cab x c hfn hc)))).trans (I.base.keep b o e n hb hx)
    · obtain ⟨sl, e1⟩ := I.base.slot b o e n hb hx
      exact ⟨sl, (hs.2 b (Nat.ne_of_lt (Nat.lt_of_lt_of_le (Heap.lt_size e) (I.ok.cab x c hfn hc)))).trans e1⟩
    · obtain ⟨o', e1⟩ := I.base.there b o e hx
      exact ⟨o', (hs.2 b (Nat.ne_of_lt (Nat.lt_of_lt_of_le (Heap.lt_size e) (I.ok.cab x c hfn hc)))).trans e1⟩
    · by_cases hj : j = i
      · subst hj
        rw [hi] at e1; cases e1
        rw [List.getElem?_set_self hiσ] at e2
        cases e2
        exact ⟨u, r, .inr ⟨.inl hk, c, hc, hc'⟩⟩
      · rw [List.getElem?_set_ne (Ne.symm hj)] at e2
        obtain ⟨u', r', q⟩ := hl j y v' e1 e2 e3
        refine ⟨u', r', ?_⟩
        rcases q with q | ⟨k, c', e, z'⟩
        · exact .inl q
        · refine .inr ⟨k, c', e, z'.sameBut hs ?_⟩
          rintro rfl
          exact hj (nodup_ix hN e1 (I.ok.inj _ _ _ e hc ▸ hi))
    · by_cases hcc : c' = c
      · subst hcc; exact ⟨_, hc'⟩
      · obtain ⟨w2, z2⟩ := I.cell y c' e
        exact ⟨w2, z2.sameBut hs hcc⟩
    · obtain ⟨e, n, ne, nf, d⟩ := I.pin p hp
      refine ⟨(hs.2 p.1 ?_).trans e, n, ne, nf, d⟩
      intro q
      rw [q, hoc] at e
      have q' : oc = p.2 := Option.some.inj e
      exact d w' (by rw [← q']; exact hocd)
theorem store_ok {M : Model} {A : Around} {E : Value → Shared → Prop} {i : Nat} {x : Str} {v : V} {u : Value} {Q : Unit → Shared → Prop} (I : Inv X pins σ H s) (hN : X.N.Nodup) (hi : X.N[i]? = some x) (hx : Loc X.env.scope x) (r : RelV v u)
    (h : ∀ s', Inv X pins (σ.set i (some v)) H s' → Q () s') (hf : X.fn x = true ∨ X.env.scope.names.lookup x = some .local := by first | exact .inl rfl | exact .inr rfl | assumption) : wpAny M A (storeName X.env x u) Q E s :=
  store_ok2 I hN hi hx r (fun s' I' _ => h s' I') hf
theorem Inv.call' {s' : Shared} {ch : List Addr} (I : Inv X pins σ H s) (ho : s'.os = s.os) (u : Un (frs X.stack) ch H H' s.heap s'.heap) (hok : HOk X.prog X.w H' s'.heap) (hg : AllBare s'.gens)
    (hch : ∀ b ∈ ch, (b ∈ X.ex ∨ X.s₀.heap.objs.size ≤ b) ∧ b ≠ X.env.locals ∧ (∀ x c, X.env.cells.lookup x = some c → c ≠ b) ∧ ∀ p ∈ X.pn ++ pins, p.1 ≠ b) : Inv X pins σ H' s' := by
  obtain ⟨h', g', d', t', o'⟩ := s'
  have e : o' = s.os := ho
  subst e
  exact I.call (g' := g') (t' := t') (d' := d') u hok hg hch
end

abbrev XK := Value → Option Addr → Hp → Prop
abbrev St := List (Option V)
abbrev VK := V → Hp → Prop
abbrev TE := St → Hp → VK → Prop
abbrev TT := St → Hp → (Bool → Hp → Prop) → Prop
abbrev TA := St → Hp → (List V → Hp → Prop) → Prop
structure Ends where
  nx : St → Hp → Prop
  rt : VK
  bk : St → Hp → Prop := fun _ _ => False
  ct : St → Hp → Prop := fun _ _ => False
abbrev TS := Ends → St → Hp → Prop

def EP (X : Cx) (pins : List (Addr × Obj)) (σ : St) (Q : VK) (u : Value) (s' : Shared) : Prop := ∃ v H', Inv X pins σ H' s' ∧ RelV v u ∧ Q v H'
def TP (X : Cx) (pins : List (Addr × Obj)) (σ : St) (Q : Bool → Hp → Prop) (b : Bool) (s' : Shared) : Prop := ∃ H', Inv X pins σ H' s' ∧ Q b H'
def AP (X : Cx) (pins : List (Addr × Obj)) (σ : St) (Q : List V → Hp → Prop) (us : List Value) (s' : Shared) : Prop := ∃ vs H', Inv X pins σ H' s' ∧ Vals vs us ∧ Q vs H'
def SP (X : Cx) (pins : List (Addr × Obj)) (D : Ends) (f : Flow) (s' : Shared) : Prop :=
  match f with
  | .next => ∃ σ' H', Inv X pins σ' H' s' ∧ D.nx σ' H'
  | .brk => ∃ σ' H', Inv X pins σ' H' s' ∧ D.bk σ' H'
  | .cont => ∃ σ' H', Inv X pins σ' H' s' ∧ D.ct σ' H'
  | .ret u => ∃ v σ' H', Inv X pins σ' H' s' ∧ RelV v u ∧ D.rt v H'

def PE (X : Cx) (e : Expr) (t : TE) : Prop :=
  ∀ (pins : List (Addr × Obj)) (s : Shared) (σ : St) (H : Hp) (Q : VK), Inv X pins σ H s → t σ H Q → wpAny (model X.prog X.w) X.A (eval e X.env) (EP X pins σ Q) X.xe s
def PT (X : Cx) (e : Expr) (t : TT) : Prop :=
  ∀ (pins : List (Addr × Obj)) (s : Shared) (σ : St) (H : Hp) (Q : Bool → Hp → Prop), Inv X pins σ H s → t σ H Q → wpAny (model X.prog X.w) X.A (isTrue e X.env (eval e X.env)) (TP X pins σ Q) X.xe s
def PW (X : Cx) (e : Expr) (t : TT) : Prop :=
  ∀ (whole : Sem Value) (pins : List (Addr × Obj)) (s : Shared) (σ : St) (H : Hp) (Q : Bool → Hp → Prop), Inv X pins σ H s → t σ H Q → wpAny (model X.prog X.w) X.A (isTrue e X.env whole) (TP X pins σ Q) X.xe s
theorem PW.pt {X : Cx} {e : Expr} {t : TT} (h : PW X e t) : PT X e t := h _
def PA (X : Cx) (es : List Expr) (t : TA) : Prop :=
  ∀ (pos : Pos) (pins : List (Addr × Obj)) (s : Shared) (σ : St) (H : Hp) (Q : List V → Hp → Prop), Inv X pins σ H s → t σ H Q → wpAny (model X.prog X.w) X.A (spliced (backTo pos (starEach es X.env))) (AP X pins σ Q) X.xe s
def PS (X : Cx) (st : Stmt) (t : TS) : Prop :=
  ∀ (pins : List (Addr × Obj)) (s : Shared) (σ : St) (H : Hp) (D : Ends), Inv X pins σ H s → t D σ H → wpAny (model X.prog X.w) X.A (exec st X.env) (SP X pins D) X.xe s
def PSs (X : Cx) (st : List Stmt) (t : TS) : Prop :=
  ∀ (pins : List (Addr × Obj)) (s : Shared) (σ : St) (H : Hp) (D : Ends), Inv X pins σ H s → t D σ H → wpAny (model X.prog X.w) X.A (execs st X.env) (SP X pins D) X.xe s
theorem thn {α : Type} {t : Sem α} {Q Q' : α → Shared → Prop} {M : Model} {A : Around} {E : Value → Shared → Prop} {s : Shared} (h : wpAny M A t Q E s) (hQ : ∀ a s, Q a s → Q' a s) : wpAny M A t Q' E s := wpAny_mono h hQ fun _ _ x => x
end L2

namespace L2
open PySem PySem.Spec PyProof.Rows
section
variable {X : Cx}

def tVar (i : Nat) : TE := fun σ H Q => ∃ v, σ[i]? = some (some v) ∧ Q v H
abbrev tC (v : V) : TE := fun _ H Q => Q v H
theorem pe_var {i : Nat} {x : Str} {pos : Pos} (hN : X.N[i]? = some x) (hv : Vis X.env.scope x) (hd : (x == ("__debug__" : Str)) = false := by decide) (hcd : (x == ("__classdict__" : Str)) = false := by decide) : PE X (.Name x pos) (tVar i) := by
  intro pins s σ H Q I h
  obtain ⟨v, e, h⟩ := h
  obtain ⟨m, hn, hl⟩ := I.loc
  obtain ⟨u, r, l⟩ := hl i x v hN e hv
  have fin : EP X pins σ Q u s := ⟨v, H, I, r, h⟩
  rcases l with ⟨hk, hm⟩ | ⟨hk, c, hc, hcell⟩
  · exact wpAny_Name (wpAny_loadName_local I.ok.kind hk hn hm fin) hd
  · rcases hk with hk | hk
    · exact wpAny_Name (wpAny_loadName_cell I.ok.kind hk hc hcell fin) hd
    · exact wpAny_Name (wpAny_loadName_free I.ok.kind hk hc hcell fin hcd) hd
theorem pe_int {i j pos} : PE X (.Constant (.int i) j pos) (tC (.int i)) := fun _ _ _ H _ I h => wpAny_Constant_int ⟨.int i, H, I.tok _, ⟨_, rfl⟩, h⟩
theorem pe_bl {b j pos} : PE X (.Constant (.bool b) j pos) (tC (.bl b)) := fun _ _ _ H _ I h => Constant_bool ⟨.bl b, H, I, rfl, h⟩
theorem pe_non {j pos} : PE X (.Constant .none j pos) (tC .non) := fun _ _ _ H _ I h => Constant_none ⟨.non, H, I, rfl, h⟩
theorem pe_str {x j pos} : PE X (.Constant (.str x) j pos) (tC (.str x)) := fun _ _ _ H _ I h => Calls.Constant_str ⟨.str x, H, I.tok _, ⟨_, rfl⟩, h⟩

def Gl (X : Cx) (x : Str) : Prop := X.env.kindOf x = some .globalImplicit
theorem ld_glob {E : Value → Shared → Prop} {pins : List (Addr × Obj)} {s : Shared} {σ : St} {H : Hp} {x : Str} {u : Value} {pos : Pos} {Q : Value → Shared → Prop} (I : Inv X pins σ H s) (hg : Gl X x) (hm : X.mg x = some u) (h : Q u s)
    (hd : (x == ("__debug__" : Str)) = false := by decide) : wpAny (model X.prog X.w) X.A (eval (.Name x pos) X.env) Q E s :=
  Calls.Name_function_global I.ok.kind hg (Calls.loadGlobal_global (by rw [I.ok.glob]; exact I.mod.glob.keeps I.bk) hm h) hd
theorem ld_blt {E : Value → Shared → Prop} {pins : List (Addr × Obj)} {s : Shared} {σ : St} {H : Hp} {x : Str} {u : Value} {pos : Pos} {Q : Value → Shared → Prop} (I : Inv X pins σ H s) (hg : Gl X x) (hm : X.mg x = none) (hv : bootBuiltins x = some u) (h : Q u s)
    (hn : x ≠ "__name__" := by decide) (hd : (x == ("__debug__" : Str)) = false := by decide) : wpAny (model X.prog X.w) X.A (eval (.Name x pos) X.env) Q E s := by
  obtain ⟨mb, h1, h2⟩ := I.mod.blt
  exact Calls.Name_function_global I.ok.kind hg (Calls.loadGlobal_builtin (by rw [I.ok.glob]; exact I.mod.glob.keeps I.bk) hm (by rw [I.ok.blt]; exact h1.keeps I.bk) ((h2 x hn).trans hv) h) hd
theorem pe_glob {x : Str} {v : V} {u : Value} {pos : Pos} (hg : Gl X x) (hm : X.mg x = some u) (r : RelV v u) (hd : (x == ("__debug__" : Str)) = false := by decide) : PE X (.Name x pos) (tC v) :=
  fun _ _ _ H _ I h => ld_glob I hg hm ⟨v, H, I, r, h⟩ hd
theorem pe_bltn {x : Str} {v : V} {u : Value} {pos : Pos} (hg : Gl X x) (hm : X.mg x = none) (hv : bootBuiltins x = some u) (r : RelV v u) (hn : x ≠ "__name__" := by decide) (hd : (x == ("__debug__" : Str)) = false := by decide) : PE X (.Name x pos) (tC v) :=
  fun _ _ _ H _ I h => ld_blt I hg hm hv ⟨v, H, I, r, h⟩ hn hd

variable {a b : Expr} {ta tb : TE} {pos : Pos}
def tB (t : TE) : TT := fun σ H Q => t σ H fun x H1 => ∃ c, x = .bl c ∧ Q c H1
theorem pt_val {e : Expr} {t : TE} (h : PE X e t) (he : ∀ whole, isTrue e X.env whole = (do let v ← whole; standAt e.pos; holding [v] (truthy v)) := by intro _; rfl) : PT X e (tB t) := by
  intro pins s σ H Q I hw
  refine isTrue_plain (thn (h pins s σ H _ I hw) fun v s1 hx9 => ?_) (he _)
  obtain ⟨x, H1, I1, r1, q1⟩ := hx9
  obtain ⟨d, rfl, q⟩ := q1
  cases r1
  exact wpAny_truthy_bool ⟨H1, I1, q⟩

variable {tA tB' : TT} {rest : List Expr}
def tAnd (t u : TT) : TT := fun σ H Q => t σ H fun c H1 => if c = true then u σ H1 Q else Q false H1
def tOr (t u : TT) : TT := fun σ H Q => t σ H fun c H1 => if c = true then Q true H1 else u σ H1 Q
def tNot (t : TT) : TT := fun σ H Q => t σ H fun c H1 => Q (!c) H1
theorem pw_and1 (ha : PT X a tA) : PW X (.BoolOp .And [a] pos) tA := by
  intro wh pins s σ H Q I h
  refine isTrue_and (thn (ha pins s σ H Q I h) fun c s1 e => ?_)
  cases c with
  | true => exact isTrue_and_nil e
  | false => exact e
theorem pw_or1 (ha : PT X a tA) : PW X (.BoolOp .Or [a] pos) tA := by
  intro wh pins s σ H Q I h
  refine isTrue_or (thn (ha pins s σ H Q I h) fun c s1 e => ?_)
  cases c with
  | false => exact isTrue_or_nil e
  | true => exact e
theorem pw_and (ha : PT X a tA) (hb : PW X (.BoolOp .And (b :: rest) pos) tB') : PW X (.BoolOp .And (a :: b :: rest) pos) (tAnd tA tB') := by
  intro wh pins s σ H Q I h
  refine isTrue_and (thn (ha pins s σ H _ I h) fun c s1 hx9 => ?_)
  obtain ⟨H1, I1, q1⟩ := hx9
  cases c with
  | true => exact hb wh pins s1 σ H1 Q I1 q1
  | false => exact ⟨H1, I1, q1⟩
theorem pw_or (ha : PT X a tA) (hb : PW X (.BoolOp .Or (b :: rest) pos) tB') : PW X (.BoolOp .Or (a :: b :: rest) pos) (tOr tA tB') := by
  intro wh pins s σ H Q I h
  refine isTrue_or (thn (ha pins s σ H _ I h) fun c s1 hx9 => ?_)
  obtain ⟨H1, I1, q1⟩ := hx9
  cases c with
  | true => exact ⟨H1, I1, q1⟩
  | false => exact hb wh pins s1 σ H1 Q I1 q1
theorem pt_not (ha : PT X a tA) : PT X (.UnaryOp .Not a pos) (tNot tA) := by
  intro pins s σ H Q I h
  exact isTrue_not (ha pins s σ H (fun c H1 => Q (!c) H1) I h)
def tAndV (ta tb : TE) : TE := fun σ H Q => ta σ H fun x H1 => ∃ c, x = .bl c ∧ if c = true then tb σ H1 Q else Q (.bl false) H1
def tNotV (ta : TE) : TE := fun σ H Q => ta σ H fun x H1 => ∃ c, x = .bl c ∧ Q (.bl (!c)) H1
theorem pe_one {op} {t : TE} (h : PE X a t) : PE X (.BoolOp op [a] pos) t := fun pins s σ H Q I hw => BoolOp_one (h pins s σ H Q I hw)
theorem pe_and (ha : PE X a ta) (hb : PE X (.BoolOp .And (b :: rest) pos) tb) : PE X (.BoolOp .And (a :: b :: rest) pos) (tAndV ta tb) := by
  intro pins s σ H Q I h
  refine BoolOp_and (thn (ha pins s σ H _ I h) fun v s1 hx9 => ?_)
  obtain ⟨x, H1, I1, r1, q1⟩ := hx9
  obtain ⟨c, rfl, q1⟩ := q1
  cases r1
  refine wpAny_truthy_bool ?_
  cases c with
  | true => exact hb pins s1 σ H1 Q I1 q1
  | false => exact ⟨.bl false, H1, I1, rfl, q1⟩
theorem pe_not (ha : PE X a ta) : PE X (.UnaryOp .Not a pos) (tNotV ta) := by
  intro pins s σ H Q I h
  refine UnaryOp_ (thn (ha pins s σ H _ I h) fun v s1 hx9 => ?_)
  obtain ⟨x, H1, I1, r1, q1⟩ := hx9
  obtain ⟨c, rfl, q1⟩ := q1
  cases r1
  exact not_of (wpAny_truthy_bool ⟨.bl (!c), H1, I1, rfl, q1⟩)
end
end L2

namespace L2
open PySem PySem.Spec PyProof.Rows

def SqL (K : PySem.W.Frag) (H : Hp) (a : Addr) (xs : List V) : Prop :=
  Rd H a (.lst xs) ∨
    ∃ (o : Obj) (its : Array Value) (n : Nat), K.lookup a = some o ∧ o.cls = .type "list" ∧ o.dict = none ∧ o.data = .seq its n ∧ its.size ≤ sizeLine ∧ Vals xs its.toList
def SqT (K : PySem.W.Frag) (H : Hp) (a : Addr) (xs : List V) : Prop :=
  Rd H a (.tup xs) ∨
    ∃ (o : Obj) (its : Array Value) (n : Nat), K.lookup a = some o ∧ o.cls = .type "tuple" ∧ o.dict = none ∧ o.data = .seq its n ∧ its.size ≤ sizeLine ∧ Vals xs its.toList
def absV : Value → Option V
  | .none => some .non
  | .bool b => some (.bl b)
  | .int i _ => some (.int i)
  | .str x _ => some (.str x)
  | .bytes b _ => some (.byt b)
  | .float b _ => some (.flt b)
  | .ref a => some (.ref a)
  | .type n => some (.ty n)
  | _ => none
theorem RelV.abs {x : V} {u : Value} (r : RelV x u) : absV u = some x := by
  cases x with
  | non => cases r; rfl
  | bl _ => cases r; rfl
  | int _ => obtain ⟨t, rfl⟩ := r; rfl
  | str _ => obtain ⟨t, rfl⟩ := r; rfl
  | byt _ => obtain ⟨t, rfl⟩ := r; rfl
  | flt _ => obtain ⟨t, rfl⟩ := r; rfl
  | ref _ => cases r; rfl
  | ty _ => cases r; rfl
theorem RelV.inj {x y : V} {u : Value} (r : RelV x u) (q : RelV y u) : x = y := Option.some.inj (r.abs.symm.trans q.abs)
theorem Vals.inj : ∀ {xs ys : List V} {us : List Value}, Vals xs us → Vals ys us → xs = ys
  := by
  intro xs ys us h
  induction h generalizing ys with
  | nil => intro q; cases q; rfl
  | cons r t ih => intro q; cases q with | cons r' t' => rw [r.inj r', ih t']
section
variable {X : Cx} {pins : List (Addr × Obj)} {σ : St} {H : Hp} {s : Shared} {a : Addr} {xs ys : List V}
theorem SqL.of {K : PySem.W.Frag} (h : H a = some (.lst xs)) : SqL K H a xs := .inl (.inl h)
theorem SqT.of {K : PySem.W.Frag} (h : H a = some (.tup xs)) : SqT K H a xs := .inl (.inl h)
theorem Inv.list (I : Inv X pins σ H s) (h : SqL X.K H a xs) : ∃ its : List Value, Vals xs its ∧ PlainL s.heap a its.toArray ∧ xs.length ≤ sizeLine := by
  rcases h with h | ⟨o, its, n, hk, hc, hd, hs, hz, r⟩
  · obtain ⟨z, its, n, r, e⟩ := h.ok I.hok
    exact ⟨its, r, ⟨_, n, e, rfl, rfl, rfl⟩, z⟩
  · refine ⟨its.toList, r, ⟨o, n, I.kIn a o hk, hc, hd, by simpa using hs⟩, ?_⟩
    have e := r.length
    simp only [Array.length_toList] at e
    omega
theorem Inv.tuple (I : Inv X pins σ H s) (h : SqT X.K H a xs) : ∃ its : List Value, Vals xs its ∧ IsTup s.heap a its.toArray ∧ xs.length ≤ sizeLine := by
  rcases h with h | ⟨o, its, n, hk, hc, _, hs, hz, r⟩
  · obtain ⟨z, its, n, r, p⟩ := h.ok I.hok
    exact ⟨its, r, ⟨_, p, rfl, n, rfl⟩, z⟩
  · refine ⟨its.toList, r, ⟨o, I.kIn a o hk, hc, n, by simpa using hs⟩, ?_⟩
    have e := r.length
    simp only [Array.length_toList] at e
    omega
theorem Inv.list_inj (I : Inv X pins σ H s) (h : SqL X.K H a xs) (h' : SqL X.K H a ys) : xs = ys := by
  obtain ⟨its, r, ⟨o, n, e, _, _, d⟩, _⟩ := I.list h
  obtain ⟨its', r', ⟨o', n', e', _, _, d'⟩, _⟩ := I.list h'
  rw [e] at e'; cases e'
  rw [d] at d'
  injection d' with d1 _
  have : its = its' := by simpa using congrArg Array.toList d1
  subst this
  exact r.inj r'
theorem Inv.tuple_inj (I : Inv X pins σ H s) (h : SqT X.K H a xs) (h' : SqT X.K H a ys) : xs = ys := by
  obtain ⟨its, r, ⟨o, e, _, n, d⟩, _⟩ := I.tuple h
  obtain ⟨its', r', ⟨o', e', _, n', d'⟩, _⟩ := I.tuple h'
  rw [e] at e'; cases e'
  rw [d] at d'
  injection d' with d1 _
  have : its = its' := by simpa using congrArg Array.toList d1
  subst this
  exact r.inj r'
end

abbrev Cx.wish (X : Cx) (E : Value → Shared → Prop) : Cx := { X with xe := E }
abbrev Cx.nox (X : Cx) : Cx := X.wish fun _ _ => False
theorem Cx.Ok.wish {X : Cx} (ok : X.Ok) (E : Value → Shared → Prop) : (X.wish E).Ok :=
  ⟨ok.mod, ok.kind, ok.glob, ok.blt, ok.above, ok.inj, ok.has, ok.cab, ok.hd, ok.frames, ok.stk, ok.exf, ok.bs, ok.bsz, ok.noex, ok.exfs, ok.funs, ok.frf⟩
theorem Cx.Ok.unwish {X : Cx} {E : Value → Shared → Prop} (ok : (X.wish E).Ok) : X.Ok :=
  ⟨ok.mod, ok.kind, ok.glob, ok.blt, ok.above, ok.inj, ok.has, ok.cab, ok.hd, ok.frames, ok.stk, ok.exf, ok.bs, ok.bsz, ok.noex, ok.exfs, ok.funs, ok.frf⟩
section
variable {X : Cx} {pins : List (Addr × Obj)} {σ : St} {H : Hp} {s : Shared} {E : Value → Shared → Prop}
theorem Inv.wish (I : Inv X pins σ H s) (E : Value → Shared → Prop) : Inv (X.wish E) pins σ H s := ⟨I.ok.wish E, I.os, I.bare, I.base, I.loc, I.cell, I.free, I.freeC, I.pin, I.hok, I.len⟩
theorem Inv.unwish (I : Inv (X.wish E) pins σ H s) : Inv X pins σ H s := ⟨I.ok.unwish, I.os, I.bare, I.base, I.loc, I.cell, I.free, I.freeC, I.pin, I.hok, I.len⟩
theorem SP.unwish {D : Ends} {f : Flow} {s' : Shared} (h : SP (X.wish E) pins D f s') : SP X pins D f s' := by
  cases f with
  | next => obtain ⟨σ', H', I, q⟩ := h; exact ⟨σ', H', I.unwish, q⟩
  | brk => obtain ⟨σ', H', I, q⟩ := h; exact ⟨σ', H', I.unwish, q⟩
  | cont => obtain ⟨σ', H', I, q⟩ := h; exact ⟨σ', H', I.unwish, q⟩
  | ret u => obtain ⟨v, σ', H', I, r, q⟩ := h; exact ⟨v, σ', H', I.unwish, r, q⟩
theorem PE.nox {e : Expr} {t : TE} (h : PE X.nox e t) : PE X e t := fun pins s σ H Q I hw =>
  wpAny_mono (h pins s σ H Q (I.wish _) hw) (fun _ _ ⟨v, H', I', r, q⟩ => ⟨v, H', I'.unwish, r, q⟩) fun _ _ z => False.elim z
theorem PT.nox {e : Expr} {t : TT} (h : PT X.nox e t) : PT X e t := fun pins s σ H Q I hw =>
  wpAny_mono (h pins s σ H Q (I.wish _) hw) (fun _ _ ⟨H', I', q⟩ => ⟨H', I'.unwish, q⟩) fun _ _ z => False.elim z
theorem PSs.nox {st : List Stmt} {t : TS} (h : PSs X.nox st t) : PSs X st t := fun pins s σ H D I hw =>
  wpAny_mono (h pins s σ H D (I.wish _) hw) (fun _ _ q => q.unwish) fun _ _ z => False.elim z
end

section
variable {X : Cx} {st : Stmt} {rest : List Stmt} {t u : TS} {e : Expr} {te : TE} {pos : Pos}
def tNext : TS := fun D σ H => D.nx σ H
def tSeq (t u : TS) : TS := fun D σ H => t { D with nx := u D } σ H
theorem pss_nil : PSs X [] tNext := fun _ _ σ H _ I h => wpAny_execs_nil ⟨σ, H, I, h⟩
theorem pss_cons (h1 : PS X st t) (h2 : PSs X rest u) : PSs X (st :: rest) (tSeq t u) := by
  intro pins s σ H D I h
  refine wpAny_execs_cons (thn (h1 pins s σ H { D with nx := u D } I h) fun f s1 q => ?_)
  cases f with
  | next =>
    obtain ⟨σ', H', I', q⟩ := q
    exact h2 pins s1 σ' H' D I' q
  | ret v => exact q
  | brk => exact q
  | cont => exact q
theorem pss_one (h1 : PS X st t) : PSs X [st] t := by
  intro pins s σ H D I h
  refine wpAny_execs_cons (thn (h1 pins s σ H D I h) fun f s1 q => ?_)
  cases f with
  | next => exact wpAny_execs_nil q
  | ret v => exact q
  | brk => exact q
  | cont => exact q
def tBreak : TS := fun D σ H => D.bk σ H
theorem ps_break : PS X (.Break pos) tBreak := fun _ _ σ H _ I h => wpAny_Break ⟨σ, H, I, h⟩
theorem Inv.quiet {pins : List (Addr × Obj)} {σ : St} {H : Hp} {s : Shared} (I : Inv X pins σ H s) : interactive X.env = false := by simp [interactive, I.ok.kind]
def tDrop (te : TE) : TS := fun D σ H => te σ H fun _ H1 => D.nx σ H1
theorem ps_expr (he : PE X e te) (hs : swapsWith e none pos.line X.env = pure false := by rfl) : PS X (.Expr e pos) (tDrop te) := by
  intro pins s σ H D I h
  refine wpAny_Expr_any (thn (he pins s σ H _ I h) fun v s1 hx9 => ?_) I.quiet hs
  obtain ⟨x, H1, I1, r1, q1⟩ := hx9
  exact ⟨σ, H1, I1, q1⟩
def tRet (te : TE) : TS := fun D σ H => te σ H D.rt
theorem ps_ret (he : PE X e te) : PS X (.Return (some e) pos) (tRet te) := by
  intro pins s σ H D I h
  refine wpAny_Return_some (thn (he pins s σ H _ I h) fun v s1 hx9 => ?_)
  obtain ⟨x, H1, I1, r1, q1⟩ := hx9
  exact ⟨x, σ, H1, I1, r1, q1⟩
def tIfS (c : TT) (t u : TS) : TS := fun D σ H => c σ H fun b H1 => if b = true then t D σ H1 else u D σ H1
theorem ps_if {c : Expr} {a b : List Stmt} {tc : TT} (hc : PT X c tc) (ha : PSs X a t) (hb : PSs X b u) : PS X (.If c a b pos) (tIfS tc t u) := by
  intro pins s σ H D I h
  refine wpAny_If (thn (hc pins s σ H _ I h) fun d s1 hx9 => ?_)
  obtain ⟨H1, I1, q1⟩ := hx9
  cases d with
  | true => exact ha pins s1 σ H1 D I1 q1
  | false => exact hb pins s1 σ H1 D I1 q1
def tNever : TS := fun _ _ _ => False
theorem pss_never {sts : List Stmt} : PSs X sts tNever := fun _ _ _ _ _ _ h => h.elim
end

abbrev TG := V → St → Hp → (St → Hp → Prop) → Prop
abbrev TGs := List V → St → Hp → (St → Hp → Prop) → Prop
def PG (X : Cx) (target : Expr) (t : TG) : Prop :=
  ∀ (pins : List (Addr × Obj)) (s : Shared) (σ : St) (H : Hp) (v : V) (u : Value) (Q : St → Hp → Prop), Inv X pins σ H s → RelV v u → t v σ H Q →
    wpAny (model X.prog X.w) X.A (assign target X.env u) (fun _ s' => ∃ σ' H', Inv X pins σ' H' s' ∧ Q σ' H') X.xe s
def PGs (X : Cx) (ts : List Expr) (t : TGs) : Prop :=
  ∀ (pins : List (Addr × Obj)) (s : Shared) (σ : St) (H : Hp) (vs : List V) (us : List Value) (Q : St → Hp → Prop), Inv X pins σ H s → Vals vs us → t vs σ H Q →
    wpAny (model X.prog X.w) X.A (assignInOrder ((assignEach ts X.env).map (·.2)) us) (fun _ s' => ∃ σ' H', Inv X pins σ' H' s' ∧ Q σ' H') X.xe s
abbrev TSet := V → V → V → Hp → (Hp → Prop) → Prop
def PSet (X : Cx) (t : TSet) : Prop :=
  ∀ (pins : List (Addr × Obj)) (s : Shared) (σ : St) (H : Hp) (o i v : V) (ov iv u : Value) (Q : Hp → Prop), Inv X pins σ H s → RelV o ov → RelV i iv → RelV v u → t o i v H Q →
    wpAny (model X.prog X.w) X.A (setItem ov iv u) (fun _ s' => ∃ H', Inv X pins σ H' s' ∧ Q H') X.xe s
section
variable {X : Cx} {pos : Pos}
def gName (i : Nat) : TG := fun v σ H Q => Q (σ.set i (some v)) H
theorem pg_name {i : Nat} {x : Str} (hN : X.N.Nodup) (hi : X.N[i]? = some x) (hx : Loc X.env.scope x) (hf : X.fn x = true ∨ X.env.scope.names.lookup x = some .local := by first | exact .inl rfl | exact .inr rfl | assumption) : PG X (.Name x pos) (gName i) := by
  intro pins s σ H v u Q I r h
  exact wpAny_assign_Name (store_ok I hN hi hx r (fun s' I' => ⟨_, H, I', h⟩) hf)
def gNil : TGs := fun vs σ H Q => vs = [] ∧ Q σ H
def gCons (t : TG) (u : TGs) : TGs := fun vs σ H Q => ∃ v r, vs = v :: r ∧ t v σ H fun σ' H' => u r σ' H' Q
theorem pgs_nil : PGs X [] gNil := by
  intro pins s σ H vs us Q I r h
  obtain ⟨e, h⟩ := h
  subst e
  cases r
  exact assignInOrder_nil ⟨σ, H, I, h⟩
theorem pgs_cons {e : Expr} {es : List Expr} {t : TG} {u : TGs} (h1 : PG X e t) (h2 : PGs X es u)
    (hs : (assignEach (e :: es) X.env).map (·.2) = assign e X.env :: (assignEach es X.env).map (·.2) := by rfl) : PGs X (e :: es) (gCons t u) := by
  intro pins s σ H vs us Q I r h
  obtain ⟨v, vr, e1, h⟩ := h
  subst e1
  cases r with
  | cons r rr =>
    rw [hs]
    refine assignInOrder_cons (thn (h1 pins s σ H _ _ _ I r h) fun _ s1 hx9 => ?_)
    obtain ⟨σ1, H1, I1, q1⟩ := hx9
    exact h2 pins s1 σ1 H1 _ _ Q I1 rr q1
def gTup (K : PySem.W.Frag) (n : Nat) (t : TGs) : TG := fun v σ H Q => ∃ a xs, v = .ref a ∧ SqT K H a xs ∧ xs.length = n ∧ t xs σ H Q
theorem pg_tup {es : List Expr} {k : Nat} {t : TGs} {n : Nat} (hc : X.calm = true) (h : PGs X es t)
    (hn : (assignEach es X.env).length = n := by rfl) (hst : (assignEach es X.env).findIdx? (·.1) = none := by rfl) : PG X (.Tuple es k pos) (gTup X.K n t) := by
  intro pins s σ H v u Q I r hw
  obtain ⟨a, xs, e1, hq, hl, hw⟩ := hw
  subst e1
  cases r
  obtain ⟨its, rv, ht, hz⟩ := I.tuple hq
  refine assign_Tuple_tuple (I.ok.hd hc) ht (by simp [hn, ← hl, rv.length]) hst fun h' hx => ?_
  have I1 : Inv X pins σ H { s with heap := h' } := I.kept (t' := s.toks) fun b o e => hx b o (Nat.ne_of_lt (Heap.lt_size e)) e
  exact h pins _ σ H xs _ Q I1 (by simpa using rv) hw
def gSub (to ti : TE) (t : TSet) : TG := fun v σ H Q => to σ H fun o H1 => ti σ H1 fun i H2 => t o i v H2 fun H3 => Q σ H3
theorem pg_sub {o i : Expr} {to ti : TE} {t : TSet} (ho : PE X o to) (hi : PE X i ti) (hs : PSet X t)
    (ha : ∀ v, assign (.Subscript o i pos) X.env v = (do
      let ov ← holding [v] (eval o X.env)
      let iv ← holding [v, ov] (eval i X.env)
      standAt pos
      holding [v, ov, iv] (setItem ov iv v)
      release [v, ov, iv] []) := by intro _; rfl) : PG X (.Subscript o i pos) (gSub to ti t) := by
  intro pins s σ H v u Q I r h
  rw [ha]
  refine wpAny_bind (wpAny_holding (thn (ho pins s σ H _ I h) fun ov s1 hx9 => ?_))
  obtain ⟨x, H1, I1, r1, q1⟩ := hx9
  refine wpAny_bind (wpAny_holding (thn (hi pins s1 σ H1 _ I1 q1) fun iv s2 hx9 => ?_))
  obtain ⟨y, H2, I2, r2, q2⟩ := hx9
  refine wpAny_bind (wpAny_standAt (wpAny_bind (wpAny_holding (thn (hs pins s2 σ H2 x y v ov iv u _ I2 r1 r2 r q2) fun _ s3 hx9 => ?_))))
  obtain ⟨H3, I3, q3⟩ := hx9
  exact wpAny_release ⟨σ, H3, I3, q3⟩
def tAsg (te : TE) (g : TG) : TS := fun D σ H => te σ H fun x H1 => g x σ H1 D.nx
theorem ps_asg {tg e : Expr} {te : TE} {g : TG} (he : PE X e te) (hg : PG X tg g) (hs : swapsWithSole [tg] e pos.line X.env = pure false := by rfl) (hw : swappedStores [tg] e X.env = pure none := by rfl)
    (h1 : (assignEach [tg] X.env).map (·.2) = [assign tg X.env] := by rfl) : PS X (.Assign [tg] e pos) (tAsg te g) := by
  intro pins s σ H D I h
  refine wpAny_Assign_stores (thn (he pins s σ H _ I h) fun v s1 hx9 => ?_) hs hw
  obtain ⟨x, H1, I1, r1, q1⟩ := hx9
  rw [h1]
  exact thn (hg pins s1 σ H1 x v _ I1 r1 q1) fun _ s2 q => q
theorem ps_set {i : Nat} {x : Str} {e : Expr} {te : TE} {pos' : Pos} (hN : X.N.Nodup) (hi : X.N[i]? = some x) (hx : Loc X.env.scope x) (he : PE X e te) (hs : swapsWith e (some (.Name x pos')) pos.line X.env = pure false := by rfl) (hf : X.fn x = true ∨ X.env.scope.names.lookup x = some .local := by first | exact .inl rfl | exact .inr rfl | assumption) :
    PS X (.Assign [.Name x pos'] e pos) (tAsg te (gName i)) := by
  intro pins s σ H D I h
  refine wpAny_Assign_Name (thn (he pins s σ H _ I h) fun v s1 hx9 => ?_) hs
  obtain ⟨y, H1, I1, r1, q1⟩ := hx9
  exact store_ok I1 hN hi hx r1 (fun s2 I2 => ⟨_, H1, I2, q1⟩) hf
end

section
variable {X : Cx} {pos : Pos}
end

structure It where
  go : Nat → Hp → Prop
  yld : Nat → Hp → V → Hp → Prop
  stop : Nat → Hp → Prop
def FpOk (X : Cx) (pins : List (Addr × Obj)) (H : Hp) (b : Addr) : Prop :=
  H b = none ∧ b ≠ X.env.locals ∧ b ∉ X.fs ∧ (b ∈ X.ex ∨ X.s₀.heap.objs.size ≤ b) ∧ (∀ x c, X.env.cells.lookup x = some c → c ≠ b) ∧ ∀ p ∈ X.pn ++ pins, p.1 ≠ b
theorem Inv.fpOk {X : Cx} {pins : List (Addr × Obj)} {σ : St} {H H' : Hp} {s : Shared} {b : Addr} (I : Inv X pins σ H s) (hb : s.heap.objs.size ≤ b) (hn : H' b = none) : FpOk X pins H' b := by
  refine ⟨hn, Nat.ne_of_gt (Nat.lt_of_lt_of_le I.lt hb), I.nofs hb, .inr (Nat.le_trans I.sz hb), fun x c e z => ?_, fun p hp z => ?_⟩
  · obtain ⟨v, q⟩ := I.cell x c e
    exact absurd (Nat.lt_of_lt_of_le q.lt (by rw [z]; exact hb)) (Nat.lt_irrefl _)
  · exact absurd (Nat.lt_of_lt_of_le (Heap.lt_size (I.pin p hp).1) (by rw [z]; exact hb)) (Nat.lt_irrefl _)
structure Turn (P : Program) (w : World) (K : PySem.W.Frag) (tg : Expr) (J : It) (fp : List Addr) (it : Addr) (tn : Nat → Heap → Prop) : Prop where
  mem : it ∈ fp
  obj : ∀ i h, tn i h → ∀ b ∈ fp, ∃ o, h.get? b = some o ∧ ∀ v, o.data ≠ .cell v
  keep : ∀ i h h', tn i h → (∀ b ∈ fp, ∀ o, h.get? b = some o → h'.get? b = some o) → tn i h'
  item : ∀ (X : Cx), X.prog = P → X.w = w → X.K = K → X.calm = true → ∀ (i : Nat) (pins : List (Addr × Obj)) (s : Shared) (σ : St) (H : Hp) (E : Value → Shared → Prop), Inv X pins σ H s → (∀ b ∈ fp, FpOk X pins H b) → tn i s.heap → J.go i H →
    wpAny (model P w) X.A (pyNext (.ref it)) (fun r s1 => ∃ u, r = some u ∧
      wpAny (model P w) X.A (letOwnedTupleGo tg (.ref it) u) (fun _ s2 => ∃ x H', Inv X pins σ H' s2 ∧ RelV x u ∧ J.yld i H x H' ∧ tn (i + 1) s2.heap ∧ ∀ b ∈ fp, H' b = none) E s1) E s
  done : ∀ (X : Cx), X.prog = P → X.w = w → X.K = K → X.calm = true → ∀ (i : Nat) (pins : List (Addr × Obj)) (s : Shared) (σ : St) (H : Hp) (E : Value → Shared → Prop), Inv X pins σ H s → (∀ b ∈ fp, FpOk X pins H b) → tn i s.heap → J.stop i H →
    wpAny (model P w) X.A (pyNext (.ref it)) (fun r s1 => r = none ∧ Inv X pins σ H s1) E s
  self : ∀ (A : Around) (i : Nat) (s : Shared) (Q : Value → Shared → Prop) (E : Value → Shared → Prop), tn i s.heap → Q (.ref it) s → wpAny (model P w) A (pyIter (.ref it)) Q E s
abbrev TI := St → Hp → (It → Hp → Prop) → Prop
def PIE (X : Cx) (pins : List (Addr × Obj)) (σ : St) (tg : Expr) (R : It → Hp → Prop) (itv : Value) (s2 : Shared) : Prop :=
  ∃ (it : Addr) (fp : List Addr) (tn : Nat → Heap → Prop) (J : It) (H' : Hp), itv = .ref it ∧ Inv X pins σ H' s2 ∧ Turn X.prog X.w X.K tg J fp it tn ∧ tn 0 s2.heap ∧ (∀ b ∈ fp, FpOk X pins H' b) ∧ R J H'
def PI (X : Cx) (tg iter : Expr) (wi : TI) : Prop :=
  ∀ (pins : List (Addr × Obj)) (s : Shared) (σ : St) (H : Hp) (R : It → Hp → Prop), Inv X pins σ H s → wi σ H R →
    wpAny (model X.prog X.w) X.A (eval iter X.env) (fun v s1 => wpAny (model X.prog X.w) X.A (pyIter v) (PIE X pins σ tg R) X.xe s1) X.xe s

theorem go_of {M : Model} {A : Around} {E : Value → Shared → Prop} {s : Shared} {tg : Expr} {it : Addr} {u : Value} {o : Obj} {n : String} {vs : Array Value} {Q : Unit → Shared → Prop} (ho : s.heap.get? it = some o) (hc : o.cls = .type n) (hd : o.data = .fields vs)
    (hn : ["enumerate", "zip", "dict_itemiterator", "dict_reverseitemiterator", "odict_iterator", "itertools.zip_longest", "itertools.pairwise"].contains n = false) (hQ : Q () s) : wpAny M A (letOwnedTupleGo tg (.ref it) u) Q E s := by
  unfold letOwnedTupleGo
  cases tg <;> first
    | exact wpAny_pure hQ
    | (cases u <;> first
        | exact wpAny_pure hQ
        | (refine wpAny_bind (wpAny_load ho ?_)
           rw [hc, hd]
           show wpAny M A (if (["enumerate", "zip", "dict_itemiterator", "dict_reverseitemiterator", "odict_iterator", "itertools.zip_longest", "itertools.pairwise"].contains n && vs[0]? == some (rawInt _)) = true then _ else _) Q E s
           rw [if_neg (by intro h; rw [hn, Bool.false_and] at h; cases h)]
           exact wpAny_pure hQ))

def Itl (K : PySem.W.Frag) (a : Addr) : It :=
  ⟨fun i H => ∃ xs x, SqL K H a xs ∧ xs[i]? = some x, fun i H x H' => H' = H ∧ ∀ xs, SqL K H a xs → xs[i]? = some x, fun i H => ∃ xs, SqL K H a xs ∧ xs.length ≤ i⟩
def Itt (K : PySem.W.Frag) (a : Addr) : It :=
  ⟨fun i H => ∃ xs x, SqT K H a xs ∧ xs[i]? = some x, fun i H x H' => H' = H ∧ ∀ xs, SqT K H a xs → xs[i]? = some x, fun i H => ∃ xs, SqT K H a xs ∧ xs.length ≤ i⟩
def Itr (lo : Int) (n : Nat) : It := ⟨fun i _ => i < n, fun i H x H' => H' = H ∧ x = .int (lo + i), fun i _ => n ≤ i⟩
theorem turn_list {P : Program} {w : World} {K : PySem.W.Frag} {tg : Expr} (a it : Addr) : Turn P w K tg (Itl K a) [it] it (fun i h => h.IsListIter it a i) where
  mem := by simp
  obj := fun i h st b hb => by
    have e : b = it := by simpa using hb
    subst e
    obtain ⟨o, e, c, d⟩ := st
    exact ⟨o, e, fun v z => by rw [d] at z; cases z⟩
  keep := fun i h h' st k => st.at fun o e => k it (by simp) o e
  item := by
    intro X hP hw hK hc i pins s σ H E I hf st hg
    subst hP hw hK
    obtain ⟨xs, x, hq, hx⟩ := hg
    obtain ⟨its, rv, p, hz⟩ := I.list hq
    obtain ⟨u, hu, ru⟩ := rv.get hx
    obtain ⟨f0, f1, f2, f3, f4, f5⟩ := hf it (by simp)
    refine wpAny_pyNext_list_item st p.isList (x := u) (by simpa using hu) fun h' st' sb => ?_
    have I1 : Inv X pins σ H { s with heap := h' } := I.turned (t' := s.toks) (fun b o hb e => (sb.2 b hb).trans e) f0 f1 f3 f4 f5
    obtain ⟨o, e, c, d⟩ := id st'
    exact ⟨u, rfl, go_of (s := { s with heap := h' }) e c d (by decide) ⟨x, H, I1, ru, ⟨rfl, fun ys hy => by rw [I.list_inj hy hq]; exact hx⟩, st', fun b hb => (hf b hb).1⟩⟩
  done := by
    intro X hP hw hK hc i pins s σ H E I hf st hg
    subst hP hw hK
    obtain ⟨xs, hq, hx⟩ := hg
    obtain ⟨its, rv, p, hz⟩ := I.list hq
    obtain ⟨f0, f1, f2, f3, f4, f5⟩ := hf it (by simp)
    have hl := rv.length
    exact wpAny_pyNext_list_end (I.ok.hd hc) st p.isList (by simp; omega) fun h' eb => ⟨rfl, I.turned (t' := s.toks) (fun b o hb e => eb b o hb e) f0 f1 f3 f4 f5⟩
  self := fun _ _ _ _ _ st h => wpAny_pyIter_listiter st h
theorem turn_tuple {P : Program} {w : World} {K : PySem.W.Frag} {tg : Expr} (a it : Addr) : Turn P w K tg (Itt K a) [it] it (fun i h => h.IsTupleIter it a i) where
  mem := by simp
  obj := fun i h st b hb => by
    have e : b = it := by simpa using hb
    subst e
    obtain ⟨o, e, c, d⟩ := st
    exact ⟨o, e, fun v z => by rw [d] at z; cases z⟩
  keep := fun i h h' st k => st.at fun o e => k it (by simp) o e
  item := by
    intro X hP hw hK hc i pins s σ H E I hf st hg
    subst hP hw hK
    obtain ⟨xs, x, hq, hx⟩ := hg
    obtain ⟨its, rv, p, hz⟩ := I.tuple hq
    obtain ⟨u, hu, ru⟩ := rv.get hx
    obtain ⟨f0, f1, f2, f3, f4, f5⟩ := hf it (by simp)
    refine wpAny_pyNext_tuple_item st (show s.heap.IsTuple a its.toArray from p) (x := u) (by simpa using hu) fun h' st' sb => ?_
    have I1 : Inv X pins σ H { s with heap := h' } := I.turned (t' := s.toks) (fun b o hb e => (sb.2 b hb).trans e) f0 f1 f3 f4 f5
    obtain ⟨o, e, c, d⟩ := id st'
    exact ⟨u, rfl, go_of (s := { s with heap := h' }) e c d (by decide) ⟨x, H, I1, ru, ⟨rfl, fun ys hy => by rw [I.tuple_inj hy hq]; exact hx⟩, st', fun b hb => (hf b hb).1⟩⟩
  done := by
    intro X hP hw hK hc i pins s σ H E I hf st hg
    subst hP hw hK
    obtain ⟨xs, hq, hx⟩ := hg
    obtain ⟨its, rv, p, hz⟩ := I.tuple hq
    obtain ⟨f0, f1, f2, f3, f4, f5⟩ := hf it (by simp)
    have hl := rv.length
    exact wpAny_pyNext_tuple_end (I.ok.hd hc) st (show s.heap.IsTuple a its.toArray from p) (by simp; omega) fun h' eb => ⟨rfl, I.turned (t' := s.toks) (fun b o hb e => eb b o hb e) f0 f1 f3 f4 f5⟩
  self := fun _ _ _ _ _ st h => wpAny_pyIter_tupleiter st h
theorem turn_range {P : Program} {w : World} {K : PySem.W.Frag} {tg : Expr} (it : Addr) (lo : Int) (n : Nat) : Turn P w K tg (Itr lo n) [it] it (fun i h => IsRangeIter h it (lo + (i : Nat) * 1) ((n : Int) - (i : Nat)) 1) where
  mem := by simp
  obj := fun i h st b hb => by
    have e : b = it := by simpa using hb
    subst e
    exact ⟨_, st, fun v z => by
      have z' : Data.fields _ = Data.cell v := z
      cases z'⟩
  keep := fun i h h' st k => k it (by simp) _ st
  item := by
    intro X hP hw hK hc i pins s σ H E I hf st hg
    subst hP hw hK
    obtain ⟨f0, f1, f2, f3, f4, f5⟩ := hf it (by simp)
    have W := Walks.range (prog := X.prog) (w := X.w) (I.ok.hd hc) it lo 1 n
    refine W.item i s _ _ hg st fun v h' tk hv st' kk => ?_
    obtain ⟨t, rfl⟩ := hv
    have I1 : Inv X pins σ H { s with heap := h', toks := tk } := I.turned (fun b o hb e => kk b o (by simpa using hb) e) f0 f1 f3 f4 f5
    refine ⟨_, rfl, go_of (s := { s with heap := h', toks := tk }) (n := "range_iterator") st' rfl rfl (by decide) ⟨.int (lo + i), H, I1, ⟨t, ?_⟩, ⟨rfl, rfl⟩, st', fun b hb => (hf b hb).1⟩⟩
    rw [Int.mul_one]
  done := by
    intro X hP hw hK hc i pins s σ H E I hf st hg
    subst hP hw hK
    obtain ⟨f0, f1, f2, f3, f4, f5⟩ := hf it (by simp)
    exact wpAny_pyNext_range_end (I.ok.hd hc) st (by have : n ≤ i := hg; omega) fun h' eb => ⟨rfl, I.turned (t' := s.toks) (fun b o hb e => eb b o hb e) f0 f1 f3 f4 f5⟩
  self := fun _ _ _ _ _ st h => wpAny_pyIter_rangeiter st h
end L2

namespace L2
open PySem PySem.Spec PyProof.Rows
section
variable {X : Cx} {tg : Expr}
def iList (K : PySem.W.Frag) (tl : TE) : TI := fun σ H R => tl σ H fun x H1 => ∃ a, x = .ref a ∧ (∃ xs, SqL K H1 a xs) ∧ R (Itl K a) H1
def iTup (K : PySem.W.Frag) (tl : TE) : TI := fun σ H R => tl σ H fun x H1 => ∃ a, x = .ref a ∧ (∃ xs, SqT K H1 a xs) ∧ R (Itt K a) H1
theorem pi_list {l : Expr} {tl : TE} (hl : PE X l tl) : PI X tg l (iList X.K tl) := by
  intro pins s σ H R I h
  refine thn (hl pins s σ H _ I h) fun v s1 hx9 => ?_
  obtain ⟨x, H1, I1, r1, q1⟩ := hx9
  obtain ⟨a, e, ⟨xs, hq⟩, q⟩ := q1
  subst e
  cases r1
  obtain ⟨its, rv, p, hz⟩ := I1.list hq
  refine wpAny_pyIter_list p.isList ?_
  refine ⟨s1.heap.objs.size, [s1.heap.objs.size], _, _, H1, rfl, I1.kept (t' := s1.toks) fun b o e => Heap.get?_push_of_some _ e, turn_list a _, ⟨_, Heap.get?_push_size _ rfl, rfl, rfl⟩, fun b hb => ?_, q⟩
  have e : b = s1.heap.objs.size := by simpa using hb
  subst e
  exact I1.fpOk (Nat.le_refl _) (I1.hok.fresh (Nat.le_refl _))
theorem pi_tup {l : Expr} {tl : TE} (hl : PE X l tl) : PI X tg l (iTup X.K tl) := by
  intro pins s σ H R I h
  refine thn (hl pins s σ H _ I h) fun v s1 hx9 => ?_
  obtain ⟨x, H1, I1, r1, q1⟩ := hx9
  obtain ⟨a, e, ⟨xs, hq⟩, q⟩ := q1
  subst e
  cases r1
  obtain ⟨its, rv, p, hz⟩ := I1.tuple hq
  refine wpAny_pyIter_tuple (show s1.heap.IsTuple a its.toArray from p) ?_
  refine ⟨s1.heap.objs.size, [s1.heap.objs.size], _, _, H1, rfl, I1.kept (t' := s1.toks) fun b o e => Heap.get?_push_of_some _ e, turn_tuple a _, ⟨_, Heap.get?_push_size _ rfl, rfl, rfl⟩, fun b hb => ?_, q⟩
  have e : b = s1.heap.objs.size := by simpa using hb
  subst e
  exact I1.fpOk (Nat.le_refl _) (I1.hok.fresh (Nat.le_refl _))
theorem range_it {pins : List (Addr × Obj)} {σ : St} {H : Hp} {s : Shared} {R : It → Hp → Prop} {E : Value → Shared → Prop} {lo hi : Int} {t u v : Tok} {tk : Nat} (I : Inv X pins σ H s) (h1 : -(2 ^ 62) ≤ lo) (h2 : lo < 2 ^ 62) (h3 : -(2 ^ 62) ≤ hi) (h4 : hi < 2 ^ 62)
    (q : R (Itr lo (hi - lo).toNat) H) : wpAny (model X.prog X.w) X.A (pyIter (.ref s.heap.objs.size)) (PIE X pins σ tg R) E { s with heap := s.heap.push { cls := .type "range", data := .fields #[.int lo t, .int hi u, .int 1 v] }, toks := tk } := by
  refine wpAny_pyIter_range (IsRange.new ..) (small_one h1 h2 h3 h4) ?_
  have I1 : Inv X pins σ H { s with heap := s.heap.push { cls := .type "range", data := .fields #[.int lo t, .int hi u, .int 1 v] }, toks := tk } := I.kept fun b o e => Heap.get?_push_of_some _ e
  refine ⟨(s.heap.push { cls := .type "range", data := .fields #[.int lo t, .int hi u, .int 1 v] }).objs.size, [(s.heap.push { cls := .type "range", data := .fields #[.int lo t, .int hi u, .int 1 v] }).objs.size], _, _, H, rfl,
    I1.kept (t' := tk) fun b o e => Heap.get?_push_of_some _ e, turn_range _ lo (hi - lo).toNat, ?_, fun b hb => ?_, q⟩
  · have e1 : lo + ((0 : Nat) : Int) * 1 = lo := by simp
    have e2 : (((hi - lo).toNat : Nat) : Int) - ((0 : Nat) : Int) = Builtin.Range.rangeSize lo hi 1 := by rw [rangeSize_one]; split <;> omega
    show IsRangeIter _ _ (lo + ((0 : Nat) : Int) * 1) ((((hi - lo).toNat : Nat) : Int) - ((0 : Nat) : Int)) 1
    rw [e1, e2]
    exact Heap.get?_push_size _ rfl
  · have e : b = (s.heap.push { cls := .type "range", data := .fields #[.int lo t, .int hi u, .int 1 v] }).objs.size := by simpa using hb
    subst e
    exact I1.fpOk (Nat.le_refl _) (I1.hok.fresh (Nat.le_refl _))
def iRng1 (ta : TA) : TI := fun σ H R => ta σ H fun vs H1 => ∃ j : Int, vs = [.int j] ∧ -(2 ^ 62) ≤ j ∧ j < 2 ^ 62 ∧ R (Itr 0 j.toNat) H1
theorem pi_range1 {a : Expr} {ta : TA} {p pos : Pos} (hg : Gl X "range") (hm : X.mg "range" = none) (ha : PA X [a] ta) (hs : starEach [a] X.env = [(false, eval a X.env)] := by rfl) : PI X tg (.Call (.Name "range" p) [a] [] pos) (iRng1 ta) := by
  intro pins s σ H R I h
  refine Call_ (ld_blt I hg hm boot_range (PyProof.Rows.callWith_type1 (thn (ha pos pins s σ H _ I h) fun us s1 hx9 => ?_) hs rfl))
  obtain ⟨vs, H1, I1, r1, q1⟩ := hx9
  obtain ⟨j, e, q1, q2, q⟩ := q1
  subst e
  cases r1 with
  | cons r rr =>
    cases rr
    obtain ⟨t, rfl⟩ := r
    exact call_range_1 (range_it I1 (by omega) (by omega) q1 q2 (by simpa using q))
def tFor (wi : TI) (g : TG) (tb : TS) : TS := fun D σ H => wi σ H fun J H1 => ∃ W : Nat → Nat → St → Hp → Prop, (∃ m, W 0 m σ H1) ∧ ∀ i m σ H, W i m σ H →
  (J.stop i H ∧ D.nx σ H) ∨ (J.go i H ∧ ∃ N : St → Hp → Prop, (∀ σ' H', N σ' H' → ∃ m', m' < m ∧ W (i + 1) m' σ' H') ∧ ∀ x H', J.yld i H x H' → g x σ H' fun σ2 H2 => tb { D with nx := N, ct := N, bk := D.nx } σ2 H2)
def pinsAt (fp : List Addr) (h : Heap) : List (Addr × Obj) := fp.filterMap fun b => (h.get? b).map fun o => (b, o)
theorem mem_pinsAt {fp : List Addr} {h : Heap} {b : Addr} {o : Obj} (hb : b ∈ fp) (e : h.get? b = some o) : (b, o) ∈ pinsAt fp h := List.mem_filterMap.mpr ⟨b, hb, by rw [e]; rfl⟩
theorem of_pinsAt {fp : List Addr} {h : Heap} {p : Addr × Obj} (hp : p ∈ pinsAt fp h) : p.1 ∈ fp ∧ h.get? p.1 = some p.2 := by
  obtain ⟨b, hb, e⟩ := List.mem_filterMap.mp hp
  cases q : h.get? b with
  | none => rw [q] at e; cases e
  | some o =>
    rw [q] at e
    have e' : (b, o) = p := Option.some.inj e
    subst e'
    exact ⟨hb, q⟩
theorem Inv.pinned {pins : List (Addr × Obj)} {σ : St} {H : Hp} {s : Shared} {fp : List Addr} (I : Inv X pins σ H s) (hf : ∀ b ∈ fp, FpOk X pins H b) (ho : ∀ b ∈ fp, ∃ o, s.heap.get? b = some o ∧ ∀ v, o.data ≠ .cell v) : Inv X (pins ++ pinsAt fp s.heap) σ H s :=
  I.pins_of fun p hp => (List.mem_append.mp hp).elim (fun z => I.pin p (List.mem_append_right _ z)) fun z => by
    obtain ⟨hb, e⟩ := of_pinsAt z
    obtain ⟨f0, f1, f2, _⟩ := hf p.1 hb
    obtain ⟨o, e', d⟩ := ho p.1 hb
    rw [e] at e'; cases e'
    exact ⟨e, f0, f1, f2, d⟩
theorem Inv.unpinned {pins pl : List (Addr × Obj)} {σ : St} {H : Hp} {s : Shared} (I : Inv X (pins ++ pl) σ H s) : Inv X pins σ H s := I.pins_of fun p hp => I.pin p (List.mem_append_right _ (List.mem_append_left _ hp))
theorem ps_for {iter : Expr} {body : List Stmt} {wi : TI} {g : TG} {tb : TS} {pos : Pos} (hp : PassesOwn (model X.prog X.w) X.A X.env X.xe) (hc : X.calm = true) (hi : PI X tg iter wi) (hg : PG X tg g) (hb : PSs X body tb)
    (hs : ∀ x, foldedSetIterable iter X.env x = pure x := by intro _; rfl) : PS X (.For tg iter body [] pos) (tFor wi g tb) := by
  intro pins s σ H D I h
  refine wpAny_For (thn (hi pins s σ H _ I h) fun v s1 h1 => thn h1 fun itv s2 h2 => ?_) hs
  obtain ⟨it, fp, tn, J, H2, e, I2, T, st2, f2, W, ⟨m0, w0⟩, turn⟩ := h2
  subst e
  -- what stays true of the iterator's objects through the loop
  have stat : ∀ {H' : Hp}, (∀ b ∈ fp, H' b = none) → ∀ b ∈ fp, FpOk X pins H' b := fun hn b hb => ⟨hn b hb, (f2 b hb).2⟩
  refine codeAny_forLoop_any (fun n s' => ∃ i σ' H', Inv X pins σ' H' s' ∧ tn i s'.heap ∧ (∀ b ∈ fp, H' b = none) ∧ W i n σ' H') ?_ m0 ⟨0, σ, H2, I2, st2, fun b hb => (f2 b hb).1, w0⟩
  rintro n s3 ⟨i, σ3, H3, I3, st3, fr3, w3⟩
  rcases turn i n σ3 H3 w3 with ⟨stop, qn⟩ | ⟨go, N, hN, step⟩
  · refine wpAny_passesOwn hp (thn (T.done X rfl rfl rfl hc i pins s3 σ3 H3 X.xe I3 (stat fr3) st3 stop) fun r s4 hx9 => ?_)
    obtain ⟨hr, I4⟩ := hx9
    subst hr
    exact wpAny_execs_nil ⟨σ3, H3, I4, qn⟩
  · refine wpAny_passesOwn hp (thn (T.item X rfl rfl rfl hc i pins s3 σ3 H3 X.xe I3 (stat fr3) st3 go) fun r s4 hx9 => ?_)
    obtain ⟨u, hr, h4⟩ := hx9
    subst hr
    refine wpAny_passesOwn hp (thn h4 fun _ s5 hx9 => ?_)
    obtain ⟨x, H5, I5, r5, y5, st5, fr5⟩ := hx9
    have I5' := I5.pinned (stat fr5) (T.obj _ _ st5)
    refine wpAny_passesOwn hp (thn (hg _ s5 σ3 H5 x u _ I5' r5 (step x H5 y5)) fun _ s6 hx9 => ?_)
    obtain ⟨σ6, H6, I6, q6⟩ := hx9
    refine wpAny_passesOwn hp (thn (hb _ s6 σ6 H6 _ I6 q6) fun f s7 q7 => ?_)
    have again : ∀ {σ7 : St} {H7 : Hp}, Inv X (pins ++ pinsAt fp s5.heap) σ7 H7 s7 → N σ7 H7 → ∃ m, m < n ∧ ∃ i σ' H', Inv X pins σ' H' s7 ∧ tn i s7.heap ∧ (∀ b ∈ fp, H' b = none) ∧ W i m σ' H' := fun {σ7 H7} I7 n7 => by
      obtain ⟨m', hm, w7⟩ := hN σ7 H7 n7
      refine ⟨m', hm, i + 1, σ7, H7, I7.unpinned, T.keep _ _ _ st5 fun b hb o e => (I7.pin (b, o) (List.mem_append_right _ (List.mem_append_right _ (mem_pinsAt hb e)))).1, fun b hb => ?_, w7⟩
      obtain ⟨o, e, d⟩ := T.obj _ _ st5 b hb
      exact (I7.pin (b, o) (List.mem_append_right _ (List.mem_append_right _ (mem_pinsAt hb e)))).2.1
    cases f with
    | next => obtain ⟨σ7, H7, I7, n7⟩ := q7; exact again I7 n7
    | cont => obtain ⟨σ7, H7, I7, n7⟩ := q7; exact again I7 n7
    | brk => obtain ⟨σ7, H7, I7, q7⟩ := q7; exact ⟨σ7, H7, I7.unpinned, q7⟩
    | ret v => obtain ⟨x7, σ7, H7, I7, r7, q7⟩ := q7; exact ⟨x7, σ7, H7, I7.unpinned, r7, q7⟩
end

theorem for_list {K : PySem.W.Frag} {a : Addr} {xs : List V} {g : TG} {tb : TS} {D : Ends} {σ : St} {H : Hp} (Pv : Nat → St → Hp → Prop) (h0 : Pv 0 σ H) (hl : ∀ i σ H, i ≤ xs.length → Pv i σ H → SqL K H a xs)
    (hs : ∀ i x σ H, xs[i]? = some x → Pv i σ H → g x σ H fun σ2 H2 => tb { D with nx := Pv (i + 1), ct := Pv (i + 1), bk := D.nx } σ2 H2) (hd : ∀ σ H, Pv xs.length σ H → D.nx σ H) :
    ∃ W : Nat → Nat → St → Hp → Prop, (∃ m, W 0 m σ H) ∧ ∀ i m σ H, W i m σ H →
      ((Itl K a).stop i H ∧ D.nx σ H) ∨ ((Itl K a).go i H ∧ ∃ N : St → Hp → Prop, (∀ σ' H', N σ' H' → ∃ m', m' < m ∧ W (i + 1) m' σ' H') ∧ ∀ x H', (Itl K a).yld i H x H' → g x σ H' fun σ2 H2 => tb { D with nx := N, ct := N, bk := D.nx } σ2 H2) := by
  refine ⟨fun i m σ H => m = xs.length - i ∧ i ≤ xs.length ∧ Pv i σ H, ⟨xs.length, by simp, Nat.zero_le _, h0⟩, ?_⟩
  rintro i m σ H ⟨rfl, hi, p⟩
  have q := hl i σ H hi p
  by_cases hlt : i < xs.length
  · refine .inr ⟨⟨xs, xs[i], q, by simp [hlt]⟩, Pv (i + 1), fun σ' H' p' => ⟨xs.length - (i + 1), by omega, rfl, hlt, p'⟩, fun x H' y => ?_⟩
    obtain ⟨e, y⟩ := y
    subst e
    exact hs i x σ _ (y xs q) p
  · have e : i = xs.length := by omega
    subst e
    exact .inl ⟨⟨xs, q, Nat.le_refl _⟩, hd σ H p⟩
theorem for_tup {K : PySem.W.Frag} {a : Addr} {xs : List V} {g : TG} {tb : TS} {D : Ends} {σ : St} {H : Hp} (Pv : Nat → St → Hp → Prop) (h0 : Pv 0 σ H) (hl : ∀ i σ H, i ≤ xs.length → Pv i σ H → SqT K H a xs)
    (hs : ∀ i x σ H, xs[i]? = some x → Pv i σ H → g x σ H fun σ2 H2 => tb { D with nx := Pv (i + 1), ct := Pv (i + 1), bk := D.nx } σ2 H2) (hd : ∀ σ H, Pv xs.length σ H → D.nx σ H) :
    ∃ W : Nat → Nat → St → Hp → Prop, (∃ m, W 0 m σ H) ∧ ∀ i m σ H, W i m σ H →
      ((Itt K a).stop i H ∧ D.nx σ H) ∨ ((Itt K a).go i H ∧ ∃ N : St → Hp → Prop, (∀ σ' H', N σ' H' → ∃ m', m' < m ∧ W (i + 1) m' σ' H') ∧ ∀ x H', (Itt K a).yld i H x H' → g x σ H' fun σ2 H2 => tb { D with nx := N, ct := N, bk := D.nx } σ2 H2) := by
  refine ⟨fun i m σ H => m = xs.length - i ∧ i ≤ xs.length ∧ Pv i σ H, ⟨xs.length, by simp, Nat.zero_le _, h0⟩, ?_⟩
  rintro i m σ H ⟨rfl, hi, p⟩
  have q := hl i σ H hi p
  by_cases hlt : i < xs.length
  · refine .inr ⟨⟨xs, xs[i], q, by simp [hlt]⟩, Pv (i + 1), fun σ' H' p' => ⟨xs.length - (i + 1), by omega, rfl, hlt, p'⟩, fun x H' y => ?_⟩
    obtain ⟨e, y⟩ := y
    subst e
    exact hs i x σ _ (y xs q) p
  · have e : i = xs.length := by omega
    subst e
    exact .inl ⟨⟨xs, q, Nat.le_refl _⟩, hd σ H p⟩
theorem for_range {lo : Int} {n : Nat} {g : TG} {tb : TS} {D : Ends} {σ : St} {H : Hp} (Pv : Nat → St → Hp → Prop) (h0 : Pv 0 σ H)
    (hs : ∀ i σ H, i < n → Pv i σ H → g (.int (lo + i)) σ H fun σ2 H2 => tb { D with nx := Pv (i + 1), ct := Pv (i + 1), bk := D.nx } σ2 H2) (hd : ∀ σ H, Pv n σ H → D.nx σ H) :
    ∃ W : Nat → Nat → St → Hp → Prop, (∃ m, W 0 m σ H) ∧ ∀ i m σ H, W i m σ H →
      ((Itr lo n).stop i H ∧ D.nx σ H) ∨ ((Itr lo n).go i H ∧ ∃ N : St → Hp → Prop, (∀ σ' H', N σ' H' → ∃ m', m' < m ∧ W (i + 1) m' σ' H') ∧ ∀ x H', (Itr lo n).yld i H x H' → g x σ H' fun σ2 H2 => tb { D with nx := N, ct := N, bk := D.nx } σ2 H2) := by
  refine ⟨fun i m σ H => m = n - i ∧ i ≤ n ∧ Pv i σ H, ⟨n, by simp, Nat.zero_le _, h0⟩, ?_⟩
  rintro i m σ H ⟨rfl, hi, p⟩
  by_cases hlt : i < n
  · refine .inr ⟨hlt, Pv (i + 1), fun σ' H' p' => ⟨n - (i + 1), by omega, rfl, hlt, p'⟩, fun x H' y => ?_⟩
    obtain ⟨e, y⟩ := y
    subst e y
    exact hs i σ _ hlt p
  · have e : i = n := by omega
    subst e
    exact .inl ⟨Nat.le_refl _, hd σ H p⟩
end L2

namespace L2
open PySem PySem.Spec PyProof.Rows

abbrev R2 := V → V → Hp → VK → Prop
def OpR (X : Cx) (f : Value → Value → Sem Value) (r : R2) : Prop :=
  ∀ (pins : List (Addr × Obj)) (s : Shared) (σ : St) (H : Hp) (x y : V) (v u : Value) (Q : VK), Inv X pins σ H s → RelV x v → RelV y u → r x y H Q →
    wpAny (model X.prog X.w) X.A (f v u) (EP X pins σ Q) X.xe s
def UnR (X : Cx) (f : Value → Sem Value) (r : V → Hp → VK → Prop) : Prop :=
  ∀ (pins : List (Addr × Obj)) (s : Shared) (σ : St) (H : Hp) (x : V) (v : Value) (Q : VK), Inv X pins σ H s → RelV x v → r x H Q →
    wpAny (model X.prog X.w) X.A (f v) (EP X pins σ Q) X.xe s
def CallR (X : Cx) (f : Value) (r : List V → Hp → VK → Prop) : Prop :=
  ∀ (pins : List (Addr × Obj)) (s : Shared) (σ : St) (H : Hp) (xs : List V) (us : List Value) (Q : VK), Inv X pins σ H s → Vals xs us → r xs H Q →
    wpAny (model X.prog X.w) X.A (call f us) (EP X pins σ Q) X.xe s
def tOp (r : R2) (ta tb : TE) : TE := fun σ H Q => ta σ H fun x H1 => tb σ H1 fun y H2 => r x y H2 Q
def tUn (r : V → Hp → VK → Prop) (ta : TE) : TE := fun σ H Q => ta σ H fun x H1 => r x H1 Q
def rI (C : Int → Int → Prop) (g : Int → Int → V) : R2 := fun x y H Q => ∃ i j, x = .int i ∧ y = .int j ∧ C i j ∧ Q (g i j) H
def rI0 (g : Int → Int → V) : R2 := fun x y H Q => ∃ i j, x = .int i ∧ y = .int j ∧ Q (g i j) H
def rU (g : Int → V) : V → Hp → VK → Prop := fun x H Q => ∃ i, x = .int i ∧ Q (g i) H

section
variable {X : Cx} {a b c : Expr} {ta tb tc : TE} {pos : Pos}

theorem binT (ha : PE X a ta) (hb : PE X b tb) {pins : List (Addr × Obj)} {s : Shared} {σ : St} {H : Hp} {R : V → V → Hp → Prop} (I : Inv X pins σ H s)
    (h : ta σ H fun x H1 => tb σ H1 fun y H2 => R x y H2) {Q : Value → Shared → Prop} {f : Value → Value → Sem Value}
    (hf : ∀ v u s2 x y H2, Inv X pins σ H2 s2 → RelV x v → RelV y u → R x y H2 → wpAny (model X.prog X.w) X.A (f v u) Q X.xe s2) :
    wpAny (model X.prog X.w) X.A (eval a X.env) (fun v s₁ => wpAny (model X.prog X.w) X.A (eval b X.env) (fun u s₂ => wpAny (model X.prog X.w) X.A (f v u) Q X.xe s₂) X.xe s₁) X.xe s := by
  refine thn (ha pins s σ H _ I h) fun v s1 hx9 => ?_
  obtain ⟨x, H1, I1, r1, q1⟩ := hx9
  refine thn (hb pins s1 σ H1 _ I1 q1) fun u s2 hx9 => ?_
  obtain ⟨y, H2, I2, r2, q2⟩ := hx9
  exact hf v u s2 x y H2 I2 r1 r2 q2

theorem pe_op {op : Operator} {r : R2} (ho : OpR X (binaryOp op) r) (ha : PE X a ta) (hb : PE X b tb) : PE X (.BinOp a op b pos) (tOp r ta tb) := by
  intro pins s σ H Q I h
  exact wpAny_BinOp (binT ha hb I h fun v u s2 x y H2 I2 rx ry q => ho pins s2 σ H2 x y v u Q I2 rx ry q)
theorem pe_un {op : UnaryOp} {r : V → Hp → VK → Prop} (ho : UnR X (unaryOp op) r) (ha : PE X a ta) : PE X (.UnaryOp op a pos) (tUn r ta) := by
  intro pins s σ H Q I h
  refine UnaryOp_ (thn (ha pins s σ H _ I h) fun v s1 hx9 => ?_)
  obtain ⟨x, H1, I1, r1, q1⟩ := hx9
  exact ho pins s1 σ H1 x v Q I1 r1 q1
theorem opI {f : Value → Value → Sem Value} {C : Int → Int → Prop} {g : Int → Int → Int}
    (rule : ∀ (i j : Int) (t u : Tok) (s : Shared) (Q : Value → Shared → Prop) (E : Value → Shared → Prop), C i j → Q (.int (g i j) s.toks) { s with toks := s.toks + 1 } → wpAny (model X.prog X.w) X.A (f (.int i t) (.int j u)) Q E s) :
    OpR X f (rI C fun i j => .int (g i j)) := by
  intro pins s σ H x y v u Q I rx ry h
  obtain ⟨i, j, rfl, rfl, hc, q⟩ := h
  obtain ⟨t, rfl⟩ := rx
  obtain ⟨t', rfl⟩ := ry
  exact rule i j t t' s _ _ hc ⟨.int (g i j), H, I.tok _, ⟨_, rfl⟩, q⟩
theorem opI0 {f : Value → Value → Sem Value} {g : Int → Int → Int}
    (rule : ∀ (i j : Int) (t u : Tok) (s : Shared) (Q : Value → Shared → Prop) (E : Value → Shared → Prop), Q (.int (g i j) s.toks) { s with toks := s.toks + 1 } → wpAny (model X.prog X.w) X.A (f (.int i t) (.int j u)) Q E s) :
    OpR X f (rI0 fun i j => .int (g i j)) := by
  intro pins s σ H x y v u Q I rx ry h
  obtain ⟨i, j, rfl, rfl, q⟩ := h
  obtain ⟨t, rfl⟩ := rx
  obtain ⟨t', rfl⟩ := ry
  exact rule i j t t' s _ _ ⟨.int (g i j), H, I.tok _, ⟨_, rfl⟩, q⟩
theorem opB0 {f : Value → Value → Sem Value} {g : Int → Int → Bool}
    (rule : ∀ (i j : Int) (t u : Tok) (s : Shared) (Q : Value → Shared → Prop) (E : Value → Shared → Prop), Q (.bool (g i j)) s → wpAny (model X.prog X.w) X.A (f (.int i t) (.int j u)) Q E s) :
    OpR X f (rI0 fun i j => .bl (g i j)) := by
  intro pins s σ H x y v u Q I rx ry h
  obtain ⟨i, j, rfl, rfl, q⟩ := h
  obtain ⟨t, rfl⟩ := rx
  obtain ⟨t', rfl⟩ := ry
  exact rule i j t t' s _ _ ⟨.bl (g i j), H, I, rfl, q⟩

def CPow (i j : Int) : Prop := 0 ≤ j ∧ j ≤ 1000000 ∧ i.natAbs < 2 ^ 64
def CMul (i j : Int) : Prop := (-(2 ^ 64) < i ∧ i < 2 ^ 64) ∨ (-(2 ^ 64) < j ∧ j < 2 ^ 64)
theorem CMul.ok {i j : Int} (h : CMul i j) : IntMulOk i j := by
  rcases h with ⟨h1, h2⟩ | ⟨h1, h2⟩
  · exact .of_left (intBits_le_64 h1 h2)
  · exact .of_right (intBits_le_64 h1 h2)
theorem op_add : OpR X (binaryOp .Add) (rI0 fun i j => .int (i + j)) := opI0 fun _ _ _ _ _ _ _ q => add_int q
theorem op_sub : OpR X (binaryOp .Sub) (rI0 fun i j => .int (i - j)) := opI0 fun _ _ _ _ _ _ _ q => sub_int q
theorem op_mul : OpR X (binaryOp .Mult) (rI CMul fun i j => .int (i * j)) := opI fun _ _ _ _ _ _ _ hc q => mul_int q hc.ok
theorem op_mod : OpR X (binaryOp .Mod) (rI (fun _ j => 0 < j) fun i j => .int (i % j)) := opI fun i j _ _ _ _ _ hc q => by
  have h1 : (0 : Int) < j := hc
  exact mod_int' (by omega) (by rw [Int.fmod_eq_emod_of_nonneg i (by omega)]; exact q)
theorem op_pow : OpR X (binaryOp .Pow) (rI CPow fun i j => .int (i ^ j.toNat)) := opI fun _ _ _ _ _ _ _ hc q => pow_int_small hc.1 hc.2.1 hc.2.2 q
theorem unI {f : Value → Sem Value} {g : Int → Int}
    (rule : ∀ (i : Int) (t : Tok) (s : Shared) (Q : Value → Shared → Prop) (E : Value → Shared → Prop), Q (.int (g i) s.toks) { s with toks := s.toks + 1 } → wpAny (model X.prog X.w) X.A (f (.int i t)) Q E s) :
    UnR X f (rU fun i => .int (g i)) := by
  intro pins s σ H x v Q I rx h
  obtain ⟨i, rfl, q⟩ := h
  obtain ⟨t, rfl⟩ := rx
  exact rule i t s _ _ ⟨.int (g i), H, I.tok _, ⟨_, rfl⟩, q⟩
theorem un_neg : UnR X (unaryOp .USub) (rU fun i => .int (-i)) := unI fun _ _ _ _ _ q => neg_int q
end

def scal : V → V → Bool
  | .non, .non => true | .non, .int _ => true | .int _, .non => true | .non, .bl _ => true | .bl _, .non => true | .non, .str _ => true | .str _, .non => true
  | .int _, .int _ => true | .bl _, .bl _ => true | .str _, .str _ => true | .byt _, .byt _ => true
  | .int _, .str _ => true | .str _, .int _ => true | .bl _, .str _ => true | .str _, .bl _ => true
  | _, _ => false
def rEq : R2 := fun x y H Q => scal x y = true ∧ Q (.bl (decide (x = y))) H
def rNe : R2 := fun x y H Q => scal x y = true ∧ Q (.bl (!decide (x = y))) H

theorem dec_int {i j : Int} : decide (V.int i = V.int j) = (i == j) := by
  rw [Bool.eq_iff_iff]
  simp
theorem dec_bl {i j : Bool} : decide (V.bl i = V.bl j) = (i == j) := by
  rw [Bool.eq_iff_iff]
  simp
theorem dec_str {i j : Str} : decide (V.str i = V.str j) = (i == j) := by
  rw [Bool.eq_iff_iff]
  simp
theorem dec_byt {i j : Array UInt8} : decide (V.byt i = V.byt j) = (i.toList == j.toList) := by
  rw [Bool.eq_iff_iff]
  cases i
  cases j
  simp

section
variable {X : Cx} {a b c : Expr} {ta tb tc : TE} {pos : Pos}
theorem fin_bl {pins : List (Addr × Obj)} {σ : St} {H : Hp} {s : Shared} {Q : VK} {k k' : Bool} (I : Inv X pins σ H s) (q : Q (.bl k) H) (e : k = k') : EP X pins σ Q (.bool k') s := by
  subst e
  exact ⟨.bl k, H, I, rfl, q⟩
theorem op_eq : OpR X (compareOp .Eq) rEq := by
  intro pins s σ H x y v u Q I rx ry h
  obtain ⟨hs, q⟩ := h
  cases x with
  | non =>
    cases rx
    cases y with
    | non => cases ry; exact PySem.EqNone.eq_none_none (fin_bl I q (by simp))
    | bl j => cases ry; exact PySem.EqNone.eq_none_bool (fin_bl I q (by simp))
    | int j => obtain ⟨t', rfl⟩ := ry; exact PySem.EqNone.eq_none_int (fin_bl I q (by simp))
    | str j => obtain ⟨t', rfl⟩ := ry; exact PySem.EqNone.eq_none_str (fin_bl I q (by simp))
    | _ => exact absurd (show false = true from hs) Bool.false_ne_true
  | bl i =>
    cases rx
    cases y with
    | non => cases ry; exact PySem.EqNone.eq_bool_none (fin_bl I q (by simp))
    | bl j => cases ry; exact eq_bool (fin_bl I q dec_bl)
    | str j => obtain ⟨t', rfl⟩ := ry; exact PySem.EqMixed.eq_bool_str (fin_bl I q (by simp))
    | _ => exact absurd (show false = true from hs) Bool.false_ne_true
  | int i =>
    obtain ⟨t, rfl⟩ := rx
    cases y with
    | non => cases ry; exact PySem.EqNone.eq_int_none (fin_bl I q (by simp))
    | int j => obtain ⟨t', rfl⟩ := ry; exact eq_int (fin_bl I q dec_int)
    | str j => obtain ⟨t', rfl⟩ := ry; exact PySem.EqMixed.eq_int_str (fin_bl I q (by simp))
    | _ => exact absurd (show false = true from hs) Bool.false_ne_true
  | str i =>
    obtain ⟨t, rfl⟩ := rx
    cases y with
    | non => cases ry; exact PySem.EqNone.eq_str_none (fin_bl I q (by simp))
    | bl j => cases ry; exact PySem.EqMixed.eq_str_bool (fin_bl I q (by simp))
    | int j => obtain ⟨t', rfl⟩ := ry; exact PySem.EqMixed.eq_str_int (fin_bl I q (by simp))
    | str j => obtain ⟨t', rfl⟩ := ry; exact eq_str (fin_bl I q dec_str)
    | _ => exact absurd (show false = true from hs) Bool.false_ne_true
  | byt i =>
    obtain ⟨t, rfl⟩ := rx
    cases y with
    | byt j => obtain ⟨t', rfl⟩ := ry; exact PySem.W.eq_bytes (fin_bl I q dec_byt)
    | _ => exact absurd (show false = true from hs) Bool.false_ne_true
  | _ => cases y <;> exact absurd (show false = true from hs) Bool.false_ne_true
theorem op_ne : OpR X (compareOp .NotEq) rNe := by
  intro pins s σ H x y v u Q I rx ry h
  obtain ⟨hs, q⟩ := h
  cases x with
  | non =>
    cases rx
    cases y with
    | non => cases ry; exact PySem.EqNone.ne_none_none (fin_bl I q (by simp))
    | bl j => cases ry; exact PySem.EqNone.ne_none_bool (fin_bl I q (by simp))
    | int j => obtain ⟨t', rfl⟩ := ry; exact PySem.EqNone.ne_none_int (fin_bl I q (by simp))
    | str j => obtain ⟨t', rfl⟩ := ry; exact PySem.EqNone.ne_none_str (fin_bl I q (by simp))
    | _ => exact absurd (show false = true from hs) Bool.false_ne_true
  | bl i =>
    cases rx
    cases y with
    | non => cases ry; exact PySem.EqNone.ne_bool_none (fin_bl I q (by simp))
    | bl j => cases ry; exact ne_bool (fin_bl I q (congrArg not dec_bl))
    | str j => obtain ⟨t', rfl⟩ := ry; exact PySem.EqMixed.ne_bool_str (fin_bl I q (by simp))
    | _ => exact absurd (show false = true from hs) Bool.false_ne_true
  | int i =>
    obtain ⟨t, rfl⟩ := rx
    cases y with
    | non => cases ry; exact PySem.EqNone.ne_int_none (fin_bl I q (by simp))
    | int j => obtain ⟨t', rfl⟩ := ry; exact ne_int (fin_bl I q (congrArg not dec_int))
    | str j => obtain ⟨t', rfl⟩ := ry; exact PySem.EqMixed.ne_int_str (fin_bl I q (by simp))
    | _ => exact absurd (show false = true from hs) Bool.false_ne_true
  | str i =>
    obtain ⟨t, rfl⟩ := rx
    cases y with
    | non => cases ry; exact PySem.EqNone.ne_str_none (fin_bl I q (by simp))
    | bl j => cases ry; exact PySem.EqMixed.ne_str_bool (fin_bl I q (by simp))
    | int j => obtain ⟨t', rfl⟩ := ry; exact PySem.EqMixed.ne_str_int (fin_bl I q (by simp))
    | str j => obtain ⟨t', rfl⟩ := ry; exact ne_str (fin_bl I q (congrArg not dec_str))
    | _ => exact absurd (show false = true from hs) Bool.false_ne_true
  | byt i =>
    obtain ⟨t, rfl⟩ := rx
    cases y with
    | byt j => obtain ⟨t', rfl⟩ := ry; exact PySem.W.ne_bytes (fin_bl I q (congrArg not dec_byt))
    | _ => exact absurd (show false = true from hs) Bool.false_ne_true
  | _ => cases y <;> exact absurd (show false = true from hs) Bool.false_ne_true

theorem op_lt : OpR X (compareOp .Lt) (rI0 fun i j => .bl (decide (i < j))) := opB0 fun _ _ _ _ _ _ _ q => lt_int q
theorem op_le : OpR X (compareOp .LtE) (rI0 fun i j => .bl (decide (i ≤ j))) := opB0 fun _ _ _ _ _ _ _ q => le_int q
theorem op_gt : OpR X (compareOp .Gt) (rI0 fun i j => .bl (decide (j < i))) := opB0 fun _ _ _ _ _ _ _ q => gt_int q
theorem op_ge : OpR X (compareOp .GtE) (rI0 fun i j => .bl (decide (j ≤ i))) := opB0 fun _ _ _ _ _ _ _ q => ge_int q
theorem op_in_str : OpR X (compareOp .In) (fun x y H Q => ∃ i j, x = .str i ∧ y = .str j ∧ Q (.bl (!(Builtin.Str.occurrences j i 0 j.length 1).isEmpty)) H) := by
  intro pins s σ H x y v u Q I rx ry h
  obtain ⟨i, j, rfl, rfl, q⟩ := h
  obtain ⟨t, rfl⟩ := rx
  obtain ⟨t', rfl⟩ := ry
  exact in_str (fin_bl I q rfl)

theorem op_isN : OpR X (compareOp .Is) (fun x y H Q => y = .non ∧ Q (.bl (decide (x = .non))) H) := by
  intro pins s σ H x y v u Q I rx ry h
  obtain ⟨rfl, q⟩ := h
  cases ry
  refine is_none_gen (fin_bl I q ?_)
  cases x <;> first
    | (cases rx; rfl)
    | (obtain ⟨t, rfl⟩ := rx; rfl)
theorem op_notN : OpR X (compareOp .IsNot) (fun x y H Q => y = .non ∧ Q (.bl (!decide (x = .non))) H) := by
  intro pins s σ H x y v u Q I rx ry h
  obtain ⟨rfl, q⟩ := h
  cases ry
  refine isnot_none_gen (fin_bl I q ?_)
  cases x <;> first
    | (cases rx; rfl)
    | (obtain ⟨t, rfl⟩ := rx; rfl)

theorem nomark (b : Expr) {op : CmpOp} (h : op ≠ .In := by decide) (h2 : op ≠ .NotIn := by decide) : behindInMarks op b = false := by
  have e1 : (op == CmpOp.In) = false := by cases op <;> first | rfl | exact absurd rfl h
  have e2 : (op == CmpOp.NotIn) = false := by cases op <;> first | rfl | exact absurd rfl h2
  cases b <;> simp [behindInMarks, e1, e2]
theorem pe_cmpR {op : CmpOp} {r : R2} (ho : OpR X (compareOp op) r) (ha : PE X a ta) (hb : PE X b tb) (hm : behindInMarks op b = false) : PE X (.Compare a [op] [b] pos) (tOp r ta tb) := by
  intro pins s σ H Q I h
  exact wpAny_Compare1 (binT ha hb I h fun v u s2 x y H2 I2 rx ry q => ho pins s2 σ H2 x y v u Q I2 rx ry q) hm
def tTest (t : TE) : TT := fun σ H Q => t σ H fun x H' => ∃ k, x = .bl k ∧ Q k H'
theorem pt_cmpR {op : CmpOp} {r : R2} (ho : OpR X (compareOp op) r) (ha : PE X a ta) (hb : PE X b tb) (hm : behindInMarks op b = false) : PT X (.Compare a [op] [b] pos) (tTest (tOp r ta tb)) := by
  intro pins s σ H Q I h
  refine wpAny_isTrue_Compare1 (thn (ha pins s σ H _ I h) fun v s1 ⟨x, H1, I1, r1, q1⟩ => thn (hb pins s1 σ H1 _ I1 q1) fun u s2 ⟨y, H2, I2, r2, q2⟩ =>
    thn (ho pins s2 σ H2 x y v u _ I2 r1 r2 q2) fun c s3 ⟨z, H3, I3, r3, k, e, q3⟩ => ?_) hm
  subst e
  cases r3
  exact wpAny_truthy_bool ⟨H3, I3, q3⟩
def tChain (r r' : R2) (ta tb tc : TE) : TE := fun σ H Q => ta σ H fun x H1 => tb σ H1 fun y H2 => r x y H2 fun z H3 => ∃ k, z = .bl k ∧
  (if k = true then tc σ H3 fun w' H4 => r' y w' H4 Q else Q (.bl false) H3)
theorem pe_chain {op op' : CmpOp} {r r' : R2} (ho : OpR X (compareOp op) r) (ho' : OpR X (compareOp op') r') (ha : PE X a ta) (hb : PE X b tb) (hc : PE X c tc)
    (hm : lastMarks [op, op'] [b, c] = false := by with_unfolding_all rfl) : PE X (.Compare a [op, op'] [b, c] pos) (tChain r r' ta tb tc) := by
  intro pins s σ H Q I h
  refine Compare_chain (thn (ha pins s σ H _ I h) fun v s1 ⟨x, H1, I1, r1, q1⟩ => chain_link (thn (hb pins s1 σ H1 _ I1 q1) fun u s2 ⟨y, H2, I2, r2, q2⟩ =>
    thn (ho pins s2 σ H2 x y v u _ I2 r1 r2 q2) fun d s3 ⟨z, H3, I3, r3, k, e, q3⟩ => ?_)) hm
  subst e
  cases r3
  refine wpAny_truthy_bool ?_
  cases k with
  | false => exact ite_ff ⟨.bl false, H3, I3, rfl, q3⟩
  | true => exact ite_tt (chain_last (thn (hc pins s3 σ H3 _ I3 q3) fun w' s4 ⟨z', H4, I4, r4, q4⟩ => ho' pins s4 σ H4 y z' u w' Q I4 r2 r4 q4))
theorem pt_chain {op op' : CmpOp} {r r' : R2} (ho : OpR X (compareOp op) r) (ho' : OpR X (compareOp op') r') (ha : PE X a ta) (hb : PE X b tb) (hc : PE X c tc)
    (hm : lastMarks [op, op'] [b, c] = false := by with_unfolding_all rfl) : PT X (.Compare a [op, op'] [b, c] pos) (tTest (tChain r r' ta tb tc)) := by
  intro pins s σ H Q I h
  refine isTrue_chain (thn (ha pins s σ H _ I h) fun v s1 ⟨x, H1, I1, r1, q1⟩ => test_link (thn (hb pins s1 σ H1 _ I1 q1) fun u s2 ⟨y, H2, I2, r2, q2⟩ =>
    thn (ho pins s2 σ H2 x y v u _ I2 r1 r2 q2) fun d s3 ⟨z, H3, I3, r3, k, e, q3⟩ => ?_)) hm
  subst e
  cases r3
  refine wpAny_truthy_bool ?_
  cases k with
  | false =>
    obtain ⟨k', e', q'⟩ := q3
    cases e'
    exact ite_ff ⟨H3, I3, q'⟩
  | true =>
    refine ite_tt (test_last (thn (hc pins s3 σ H3 _ I3 q3) fun w' s4 ⟨z', H4, I4, r4, q4⟩ => thn (ho' pins s4 σ H4 y z' u w' _ I4 r2 r4 q4) fun d' s5 hx9 => ?_))
    obtain ⟨z2, H5, I5, r5, k2, e2, q5⟩ := hx9
    subst e2
    cases r5
    exact wpAny_truthy_bool ⟨H5, I5, q5⟩

theorem line63 : (sizeLine : Nat) < 2 ^ 63 := by rw [sizeLine_eq]; decide
theorem op_add_str : OpR X (binaryOp .Add) (fun x y H Q => ∃ i j, x = .str i ∧ y = .str j ∧ i.length + j.length ≤ sizeLine ∧ Q (.str (i ++ j)) H) := by
  intro pins s σ H x y v u Q I rx ry h
  obtain ⟨i, j, rfl, rfl, hz, q⟩ := h
  obtain ⟨t, rfl⟩ := rx
  obtain ⟨t', rfl⟩ := ry
  exact add_str (fun t' tk => ⟨.str (i ++ j), H, I.tok _, ⟨_, rfl⟩, q⟩) hz
theorem vals1 {x : V} {us : List Value} (r : Vals [x] us) : ∃ u, us = [u] ∧ RelV x u := by
  cases r with
  | cons r1 r2 => cases r2; exact ⟨_, rfl, r1⟩
theorem vals2 {x y : V} {us : List Value} (r : Vals [x, y] us) : ∃ u w', us = [u, w'] ∧ RelV x u ∧ RelV y w' := by
  cases r with
  | cons r1 r2 =>
    cases r2 with
    | cons r3 r4 => cases r4; exact ⟨_, _, rfl, r1, r3⟩
theorem call_int1 : CallR X (.type "int") (fun xs H Q => (∃ i, xs = [.int i] ∧ Q (.int i) H) ∨ ∃ k, xs = [.bl k] ∧ Q (.int (if k then 1 else 0)) H) := by
  intro pins s σ H xs us Q I r h
  rcases h with ⟨i, rfl, q⟩ | ⟨k, rfl, q⟩
  · obtain ⟨u, rfl, t, rfl⟩ := vals1 r
    exact call_int_int ⟨.int i, H, I, ⟨_, rfl⟩, q⟩
  · obtain ⟨u, rfl, r1⟩ := vals1 r
    cases r1
    exact call_int_bool ⟨.int (if k then 1 else 0), H, I.tok _, ⟨_, rfl⟩, q⟩
theorem call_str_int : CallR X (.type "str") (fun xs H Q => ∃ i, xs = [.int i] ∧ i.natAbs.log2 < 1920 ∧ Q (.str (toString i)) H) := by
  intro pins s σ H xs us Q I r h
  obtain ⟨i, rfl, hz, q⟩ := h
  obtain ⟨u, rfl, t, rfl⟩ := vals1 r
  exact PySem.P.str_of_int hz ⟨.str _, H, I.tok _, ⟨_, rfl⟩, q⟩
end
end L2

namespace L2
open PySem PySem.Spec PyProof.Rows

structure ObjM (h : Heap) (x dx C : Addr) (mA : Str → Option Value) : Prop where
  obj : h.get? x = some (PySem.W.instObj C dx)
  ns : h.Ns1 dx mA
  ne : dx ≠ x

section
variable {prog : Program} {w : World} {A : Around} {E : Value → Shared → Prop} {s : Shared} {K : PySem.W.Frag} {x dx C f : Addr} {mA : Str → Option Value} {name : Str} {v : Value}

end

section
variable {P : Program} {w : World} {H H' : Hp} {h h' : Heap} {a C dx : Addr} {fs fs' : List (Str × V)}
end

structure Cls (K : PySem.W.Frag) (C : Addr) : Prop where
  pg : PySem.W.plainGet K C Str.empty = true
  hd : PySem.W.hasDictIn K C = true
  po : PySem.W.plainOver K C = true
  sa : PySem.W.findIn K (.ref C) "__setattr__" = some (some (.builtin "object.__setattr__"))
theorem Cls.get {K : PySem.W.Frag} {C : Addr} (c : Cls K C) (f : Str) : PySem.W.plainGet K C f = true := c.pg
structure Con (K : PySem.W.Frag) (C : Addr) (f : Str) (v : V) (u : Value) : Prop where
  at_ : PySem.W.findIn K (.ref C) f = some (some u)
  rel : RelV v u
  get : PySem.W.specialIn K u "__get__" = some none
  cp : PySem.W.copiedNames.contains f = false
structure Meth (K : PySem.W.Frag) (C : Addr) (m : Str) (f : Addr) : Prop where
  at_ : PySem.W.findIn K (.ref C) m = some (some (.ref f))
  fn : PySem.W.isFn K (.ref f) = true
  kp : PySem.W.keepIn K (.ref f) = true

section
variable {X : Cx} {pins : List (Addr × Obj)} {σ : St} {H : Hp} {s : Shared} {a C dx : Addr} {fs : List (Str × V)} {f : Str} {v : V} {A : Around} {E : Value → Shared → Prop}

theorem Inv.made (I : Inv X pins σ H s) : Inv X pins σ (upd (upd H s.heap.objs.size (.own (s.heap.objs.size + 1))) (s.heap.objs.size + 1) (.ins C s.heap.objs.size []))
    { s with heap := (s.heap.push PySem.W.emptyDict).push (PySem.W.instObj C s.heap.objs.size) } := by
  have e1 : (s.heap.push PySem.W.emptyDict).get? s.heap.objs.size = some PySem.W.emptyDict := Heap.get?_push_size s.heap rfl
  have e2 : ((s.heap.push PySem.W.emptyDict).push (PySem.W.instObj C s.heap.objs.size)).get? (s.heap.objs.size + 1) = some (PySem.W.instObj C s.heap.objs.size) := by
    have := Heap.get?_push_size (s.heap.push PySem.W.emptyDict) (o := PySem.W.instObj C s.heap.objs.size) rfl
    rwa [Heap.size_push] at this
  have e3 : (s.heap.push PySem.W.emptyDict).Ns s.heap.objs.size (fun _ => none) := ⟨PySem.W.emptyDict, #[], _, e1, rfl, (fun e he => absurd he (by simp)), fun _ => rfl⟩
  have I1 := I.laid (a := s.heap.objs.size) (o := .own (s.heap.objs.size + 1)) (h' := s.heap.push PySem.W.emptyDict) (t' := s.toks) (fun b u q => Heap.get?_push_of_some _ q) (Nat.le_refl _) ⟨_, e1⟩
  refine I1.laid (a := s.heap.objs.size + 1) (o := .ins C s.heap.objs.size []) (t' := s.toks) (fun b u q => Heap.get?_push_of_some _ q) (Nat.le_of_eq (Heap.size_push _ _)) ?_
  have ne : s.heap.objs.size ≠ s.heap.objs.size + 1 := Nat.ne_of_lt (Nat.lt_succ_self _)
  refine ⟨by rw [upd_ne ne, upd_same], Nat.zero_le _, ne, e2, fun _ => none, (Heap.Ns1.of_empty e3).at fun o q => Heap.get?_push_of_some _ q, fun _ => True.intro, fun y hy => absurd rfl hy⟩

end

section
variable {X : Cx} {o e value : Expr} {f : Str} {pos pos' tpos : Pos} {ta tv : TE}
end

section
variable {X : Cx} {pins : List (Addr × Obj)} {σ : St} {H : Hp} {s : Shared} {A : Around} {E : Value → Shared → Prop} {Q : Value → Shared → Prop} {c : Value} {b : Bool}
inductive TyOf (K : PySem.W.Frag) (H : Hp) : V → Value → Prop where
  | non : TyOf K H .non (.type "NoneType")
  | bl (x : Bool) : TyOf K H (.bl x) (.type "bool")
  | int (i : Int) : TyOf K H (.int i) (.type "int")
  | str (x : Str) : TyOf K H (.str x) (.type "str")
  | flt (x : UInt64) : TyOf K H (.flt x) (.type "float")
  | lst {a : Addr} {xs : List V} (e : H a = some (.lst xs)) : TyOf K H (.ref a) (.type "list")
  | frz {a : Addr} {o : Obj} {xs : List V} (e : H a = some (.frz o (.lst xs))) : TyOf K H (.ref a) (.type "list")
  | tup {a : Addr} {xs : List V} (e : H a = some (.tup xs)) : TyOf K H (.ref a) (.type "tuple")
  | dK {a : Addr} {kvs : List (Key × V)} (e : H a = some (.dK kvs)) : TyOf K H (.ref a) (.type "dict")
  | dT {a : Addr} {kvs : List (List Key × V)} (e : H a = some (.dT kvs)) : TyOf K H (.ref a) (.type "dict")
  | ins {a C dx : Addr} {fs : List (Str × V)} (e : H a = some (.ins C dx fs)) (cl : Cls K C) (ha : PySem.W.findIn K (.ref C) "__class__" = some (some (.builtin "object.__class__")))
      (hn : PySem.W.specialIn K (.builtin "object.__class__") "__get__" = some (some (.builtin "getset_descriptor.__get__"))) (htk : PySem.W.takesIn K (.builtin "object.__class__") = some true)
      (hm : PySem.W.mroIn K C (.type "object") = some true) : TyOf K H (.ref a) (.ref C)
end
end L2

namespace L2
open PySem PySem.Spec PyProof.Rows

structure Room (k : Nat) (A : Around) : Prop where
  hd : A.handled = none
  dp : A.depth + 3 * k + 5 < recursionLimit
  un : A.units + 16 * k + 200 < cLine
  gd : A.guards = some []
theorem Room.mono {j k : Nat} {A : Around} (r : Room k A) (h : j ≤ k) : Room j A := ⟨r.hd, by have := r.dp; omega, by have := r.un; omega, r.gd⟩
theorem Room.deeper {k : Nat} {A : Around} (r : Room (k + 1) A) (env : Env) : Room k (A.deeper env) :=
  ⟨r.hd, by have := r.dp; show A.depth + 1 + 3 * k + 5 < _; omega, by have := r.un; show A.units + 3 + 16 * k + 200 < _; omega, r.gd⟩
theorem Room.in1 {k : Nat} {A : Around} (r : Room (k + 1) A) : Room k A.in1 :=
  ⟨r.hd, by have := r.dp; show A.depth + 3 * k + 5 < _; omega, by have := r.un; show A.units + 1 + 16 * k + 200 < _; omega, r.gd⟩
theorem Room.depth {k : Nat} {A : Around} (r : Room k A) : A.depth < recursionLimit := by have := r.dp; omega
theorem Room.units {k : Nat} {A : Around} (r : Room k A) : A.units + 64 < cLine := by have := r.un; omega
abbrev tNil : TA := fun _ H Q => Q [] H
abbrev tCons (ta : TE) (tr : TA) : TA := fun σ H Q => ta σ H fun x H1 => tr σ H1 fun xs H2 => Q (x :: xs) H2
section
variable {X : Cx} {e : Expr} {es : List Expr} {te : TE} {t : TA} {pos : Pos}
theorem pa_nil : PA X [] tNil := fun _ _ _ _ H Q I h => Calls.spliced_nil ⟨[], H, I, .nil, h⟩
theorem pa_cons (ha : PE X e te) (hr : PA X es t) (hs : starEach (e :: es) X.env = (false, eval e X.env) :: starEach es X.env := by rfl) : PA X (e :: es) (tCons te t) := by
  intro pos pins s σ H Q I h
  rw [hs]
  show wpAny _ _ (spliced ((false, eval e X.env) :: backTo pos (starEach es X.env))) _ _ s
  refine Calls.spliced_cons (thn (ha pins s σ H _ I h) fun u s1 hx9 => ?_)
  obtain ⟨x, H1, I1, r1, q1⟩ := hx9
  refine thn (hr pos pins s1 σ H1 _ I1 q1) fun us s2 hx9 => ?_
  obtain ⟨xs, H2, I2, r2, q2⟩ := hx9
  exact ⟨x :: xs, H2, I2, .cons r1 r2, q2⟩

def tTup (t : TA) : TE := fun σ H Q => t σ H fun xs H1 => xs.length ≤ sizeLine ∧ ∀ p, H1 p = none → Q (.ref p) (upd H1 p (.tup xs))
def tLst (t : TA) : TE := fun σ H Q => t σ H fun xs H1 => xs.length ≤ sizeLine ∧ ∀ p, H1 p = none → Q (.ref p) (upd H1 p (.lst xs))
theorem pe_tup {x1} (h : PA X es t) : PE X (.Tuple es x1 pos) (tTup t) := by
  intro pins s σ H Q I hq
  refine wpAny_Tuple_spliced (thn (h pos pins s σ H _ I hq) fun us s1 ⟨xs, H1, I1, r, z, q⟩ => ⟨by rw [← r.length]; exact z, ?_⟩)
  have hf : H1 s1.heap.objs.size = none := I1.hok.fresh (Nat.le_refl _)
  refine ⟨.ref s1.heap.objs.size, upd H1 s1.heap.objs.size (.tup xs), I1.laid (t' := s1.toks) (fun b u e => Heap.get?_push_of_some _ e) (Nat.le_refl _) ?_, rfl, q _ hf⟩
  exact ⟨z, us, 0, r, Heap.get?_push_size _ rfl⟩
theorem pe_lst (h : PA X es t) : PE X (.List es pos) (tLst t) := by
  intro pins s σ H Q I hq
  refine wpAny_List_spliced (thn (h pos pins s σ H _ I hq) fun us s1 ⟨xs, H1, I1, r, z, q⟩ => ⟨by rw [← r.length]; exact z, ?_⟩)
  have hf : H1 s1.heap.objs.size = none := I1.hok.fresh (Nat.le_refl _)
  refine ⟨.ref s1.heap.objs.size, upd H1 s1.heap.objs.size (.lst xs), I1.laid (t' := s1.toks) (fun b u e => Heap.get?_push_of_some _ e) (Nat.le_refl _) ?_, rfl, q _ hf⟩
  exact ⟨z, us, 0, r, Heap.get?_push_size _ rfl⟩
end

abbrev Sp := List V → Hp → VK → XK → Prop
abbrev CXT := List Env → Hp → Shared → XK → Value → Shared → Prop

structure Env0 (P : Program) (w : World) (K : PySem.W.Frag) (mg : Str → Option Value) (base : Heap) (A : Around) (outer : List Env) (s : Shared) (H : Hp) : Prop where
  frames : A.frames = some outer
  mod : Mod K mg base
  bs : ∀ b o, base.get? b = some o → s.heap.get? b = some o ∧ H b = none
  bsz : base.objs.size ≤ s.heap.objs.size
  funs : s.heap.FunFrames base outer
  frf : ∀ b ∈ frs outer, H b = none
  hok : HOk P w H s.heap
  bare : AllBare s.gens
def CE (outer : List Env) (P : Program) (w : World) (H : Hp) (s : Shared) (Q : VK) (u : Value) (s' : Shared) : Prop :=
  ∃ v H', s'.os = s.os ∧ AllBare s'.gens ∧ Un (frs outer) [] H H' s.heap s'.heap ∧ HOk P w H' s'.heap ∧ RelV v u ∧ Q v H'
def CR (CX : CXT) (outer : List Env) (P : Program) (w : World) (H : Hp) (s : Shared) (Q : VK) (E : XK) (r : Result) (s' : Shared) : Prop :=
  match r with
  | .ok (.ret u) => CE outer P w H s Q u s'
  | .ok _ => False
  | .error e => CX outer H s E e s'
structure FnOk (P : Program) (w : World) (K : PySem.W.Frag) (mg : Str → Option Value) (base : Heap) (CX : CXT) (k : Nat) (f : Addr) (fd : FuncData) (ps : List Str) (sp : Sp) : Prop where
  len : ∀ vs H Q E, sp vs H Q E → vs.length = ps.length
  run : ∀ (A : Around) (outer : List Env) (s : Shared) (H : Hp) (args : Args) (us : List Value) (vs : List V) (Q : VK) (E : XK), Room k A → Env0 P w K mg base A outer s H → BindsTo s fd args (ps.zip us) → Vals vs us → sp vs H Q E →
    codeAny (model P w) A (.call (.ref f) args) (CR CX outer P w H s Q E) s
theorem FnOk.mono {P : Program} {w : World} {K : PySem.W.Frag} {mg : Str → Option Value} {base : Heap} {CX : CXT} {j k : Nat} {f : Addr} {fd : FuncData} {ps : List Str} {sp : Sp} (F : FnOk P w K mg base CX j f fd ps sp) (h : j ≤ k) :
    FnOk P w K mg base CX k f fd ps sp := ⟨F.len, fun A outer s H args us vs Q E hr => F.run A outer s H args us vs Q E (hr.mono h)⟩
theorem FnOk.imp {P : Program} {w : World} {K : PySem.W.Frag} {mg : Str → Option Value} {base : Heap} {CX : CXT} {k : Nat} {f : Addr} {fd : FuncData} {ps : List Str} {sp sp' : Sp} (F : FnOk P w K mg base CX k f fd ps sp)
    (h : ∀ vs H Q E, sp' vs H Q E → sp vs H Q E) : FnOk P w K mg base CX k f fd ps sp' :=
  ⟨fun vs H Q E q => F.len vs H Q E (h _ _ _ _ q), fun A outer s H args us vs Q E hr he hb hv hs => F.run A outer s H args us vs Q E hr he hb hv (h _ _ _ _ hs)⟩

theorem Env0.in1 {P : Program} {w : World} {K : PySem.W.Frag} {mg : Str → Option Value} {base : Heap} {A : Around} {outer : List Env} {s : Shared} {H : Hp} (e : Env0 P w K mg base A outer s H) :
    Env0 P w K mg base A.in1 outer s H := ⟨e.frames, e.mod, e.bs, e.bsz, e.funs, e.frf, e.hok, e.bare⟩

section
variable {X : Cx} {pins : List (Addr × Obj)} {σ : St} {H : Hp} {s s' : Shared}
theorem Inv.env0 (I : Inv X pins σ H s) : Env0 X.prog X.w X.K X.mg X.base X.A X.stack s H :=
  ⟨I.ok.frames, I.ok.mod, I.bs, Nat.le_trans I.ok.bsz I.sz, I.stack, I.stkFree, I.hok, I.bare⟩
theorem Inv.after {Q : VK} {u : Value} (I : Inv X pins σ H s) (h : CE X.stack X.prog X.w H s Q u s') : EP X pins σ Q u s' := by
  obtain ⟨v, H', os, bare, un, hok, r, q⟩ := h
  obtain ⟨hh, g, d, t, os'⟩ := s'
  obtain rfl : os' = s.os := os
  exact ⟨v, H', I.call (h' := hh) (g' := g) (d' := d) (t' := t) (ch := []) un hok bare (fun b z => absurd z (by simp)), r, q⟩
end

def tCall (sp : Sp) (dvs : List V) (E : XK) (t : TA) : TE := fun σ H Q => t σ H fun vs H1 => sp (vs ++ dvs) H1 Q E
def Binds (K : PySem.W.Frag) (fd : FuncData) (ps : List Str) (ds : List Value) : Prop :=
  ∀ (s : Shared) (us : List Value), K.In s.heap → (us ++ ds).length = ps.length → BindsTo s fd ⟨us, []⟩ (ps.zip (us ++ ds))
theorem Binds.all {K : PySem.W.Frag} {fd : FuncData} {ps : List Str} (h : ∀ us : List Value, us.length = ps.length → bindArgs fd ⟨us, []⟩ = pure (ps.zip us)) : Binds K fd ps [] := fun s us _ hl => by
  rw [List.append_nil] at hl ⊢
  exact .of_eq (h us hl)

def Passes (CX : CXT) (X : Cx) (E : XK) : Prop := ∀ (pins : List (Addr × Obj)) (σ : St) (H : Hp) (s : Shared) (e : Value) (s' : Shared), Inv X pins σ H s → CX X.stack H s E e s' → X.xe e s'

section
variable {X : Cx} {CX : CXT} {k : Nat} {f C : Addr} {fd : FuncData} {ps : List Str} {sp : Sp} {dvs : List V} {ds : List Value} {E : XK} {x m : Str} {p pos apos : Pos} {e o : Expr} {es : List Expr} {ta : TE} {t : TA}

theorem run_fn {pins : List (Addr × Obj)} {σ : St} {H : Hp} {s : Shared} {Q : VK} {us : List Value} {vs : List V} (F : FnOk X.prog X.w X.K X.mg X.base CX k f fd ps sp) (hr : Room k X.A) (hb : Binds X.K fd ps ds) (hd : Vals dvs ds) (hx : Passes CX X E)
    (I : Inv X pins σ H s) (r : Vals vs us) (h : sp (vs ++ dvs) H Q E) : wpAny (model X.prog X.w) X.A (call (.ref f) us) (EP X pins σ Q) X.xe s := by
  have r2 : Vals (vs ++ dvs) (us ++ ds) := r.append hd
  have hl : (us ++ ds).length = ps.length := by rw [← r2.length]; exact F.len _ _ _ _ h
  refine wpAny_call (codeAny_mono (F.run X.A X.stack s H ⟨us, []⟩ (us ++ ds) (vs ++ dvs) Q E hr I.env0 (hb s us I.kIn hl) r2 h) fun r s' hq => ?_)
  cases r with
  | error e => exact hx pins σ H s e s' I hq
  | ok fl =>
    cases fl with
    | ret u => exact I.after hq
    | next => exact False.elim hq
    | brk => exact False.elim hq
    | cont => exact False.elim hq

theorem pe_call (F : FnOk X.prog X.w X.K X.mg X.base CX k f fd ps sp) (hr : Room k X.A) (hg : Gl X x) (hm : X.mg x = some (.ref f)) (hk : PySem.W.keepIn X.K (.ref f) = true) (hb : Binds X.K fd ps ds) (hd : Vals dvs ds) (hx : Passes CX X E)
    (ha : PA X (e :: es) t) (hdb : (x == ("__debug__" : Str)) = false := by decide) (he : starEach (e :: es) X.env = (false, eval e X.env) :: starEach es X.env := by rfl) (hpl : (backTo pos (starEach es X.env)).any (·.1) = false := by rfl) :
    PE X (.Call (.Name x p) (e :: es) [] pos) (tCall sp dvs E t) := by
  intro pins s σ H Q I h
  refine wpAny_Call_Name_kw (ld_glob I hg hm ?_ hdb)
  refine PySem.W.callWith_K (h₀ := X.base) I.ok.mod.kin hk (thn (ha pos pins s σ H _ I h) fun us s1 ⟨vs, H1, I1, r, q⟩ => ⟨I1.kIn, ?_⟩) he hpl
  exact run_fn F hr hb hd hx I1 r q
structure Mk (K : PySem.W.Frag) (C f : Addr) : Prop where
  makes : PySem.W.makesIn K C = true
  init : PySem.W.findIn K (.ref C) "__init__" = some (some (.ref f))
  fn : PySem.W.isFn K (.ref f) = true
  kp : PySem.W.keepIn K (.ref C) = true

end

section
variable {X : Cx} {CX : CXT} {k : Nat} {f C : Addr} {fd : FuncData} {ps ks : List Str} {sp : Sp} {E : XK} {x m : Str} {p pos apos kpos : Pos} {e o : Expr} {es : List Expr} {kws : List Keyword} {te ta : TE} {t tk : TA} {nm : Option Str}
structure KBinds (K : PySem.W.Frag) (fd : FuncData) (ps ks : List Str) (g : List Value → List Value → List Value) (gV : List V → List V → List V) : Prop where
  to : ∀ (s : Shared) (us ws : List Value), K.In s.heap → (g us ws).length = ps.length → BindsTo s fd ⟨us, ks.zip ws⟩ (ps.zip (g us ws))
  rel : ∀ {vs : List V} {us : List Value} {zs : List V} {ws : List Value}, Vals vs us → Vals zs ws → Vals (gV vs zs) (g us ws)
variable {g : List Value → List Value → List Value} {gV : List V → List V → List V}
end

structure FnScope (N P : List Str) (sc : Scope) : Prop where
  kind : sc.kind = .function
  co : sc.isCoroutine = false
  gen : sc.isGenerator = false
  nd : N.Nodup
  pre : N.take P.length = P
  par : ∀ x ∈ P, sc.names.lookup x = some .local ∨ sc.names.lookup x = some .cell
  nofree : ∀ y ∈ sc.names, y.2 ≠ .free

theorem bindL_out {kindOf : Str → Option NameKind} {x : Str} : ∀ {binds : List (Str × Value)} {m : Str → Option Value}, (∀ v, (x, v) ∉ binds) → bindL kindOf binds m x = m x
  | [], _, _ => rfl
  | (n, v) :: r, m, h => by
    unfold bindL
    rw [bindL_out fun w hw => h w (List.mem_cons_of_mem _ hw)]
    split
    · have : x ≠ n := by rintro rfl; exact h v List.mem_cons_self
      simp [this]
    · rfl
theorem bindC_out {kindOf : Str → Option NameKind} {x : Str} : ∀ {binds : List (Str × Value)} {m : Str → Option Value}, (∀ v, (x, v) ∉ binds) → bindC kindOf binds m x = m x
  | [], _, _ => rfl
  | (n, v) :: r, m, h => by
    unfold bindC
    rw [bindC_out fun w hw => h w (List.mem_cons_of_mem _ hw)]
    split
    · rfl
    · have : x ≠ n := by rintro rfl; exact h v List.mem_cons_self
      simp [this]
theorem bindL_get {kindOf : Str → Option NameKind} {x : Str} {v : Value} : ∀ {P : List Str} {vs : List Value} {i : Nat} {m : Str → Option Value}, P.Nodup → P[i]? = some x → vs[i]? = some v → kindOf x = some .local →
    bindL kindOf (P.zip vs) m x = some v
  | [], _, _, _, _, h, _, _ => by simp at h
  | _ :: _, [], _, _, _, _, h, _ => by simp at h
  | p :: P, w :: vs, 0, m, nd, h1, h2, hk => by
    simp at h1 h2; subst h1; subst h2
    show bindL kindOf ((p, w) :: P.zip vs) m p = _
    unfold bindL
    rw [bindL_out fun v hv => (List.nodup_cons.mp nd).1 (List.of_mem_zip hv).1, if_pos hk]
    simp
  | p :: P, w :: vs, i + 1, m, nd, h1, h2, hk => by
    show bindL kindOf ((p, w) :: P.zip vs) m x = _
    unfold bindL
    exact bindL_get (i := i) (List.nodup_cons.mp nd).2 (by simpa using h1) (by simpa using h2) hk
theorem bindC_get {kindOf : Str → Option NameKind} {x : Str} {v : Value} : ∀ {P : List Str} {vs : List Value} {i : Nat} {m : Str → Option Value}, P.Nodup → P[i]? = some x → vs[i]? = some v → kindOf x ≠ some .local →
    bindC kindOf (P.zip vs) m x = some v
  | [], _, _, _, _, h, _, _ => by simp at h
  | _ :: _, [], _, _, _, _, h, _ => by simp at h
  | p :: P, w :: vs, 0, m, nd, h1, h2, hk => by
    simp at h1 h2; subst h1; subst h2
    show bindC kindOf ((p, w) :: P.zip vs) m p = _
    unfold bindC
    rw [bindC_out fun v hv => (List.nodup_cons.mp nd).1 (List.of_mem_zip hv).1, if_neg hk]
    simp
  | p :: P, w :: vs, i + 1, m, nd, h1, h2, hk => by
    show bindC kindOf ((p, w) :: P.zip vs) m x = _
    unfold bindC
    exact bindC_get (i := i) (List.nodup_cons.mp nd).2 (by simpa using h1) (by simpa using h2) hk

def start (N : List Str) (vs : List V) : St := vs.map some ++ List.replicate (N.length - vs.length) none

def cxOf (CX : CXT) (P : Program) (w : World) (K : PySem.W.Frag) (mg : Str → Option Value) (base : Heap) (N : List Str) (qual : Str) (scope : Scope) (f : Addr) (cd : Value) (A : Around) (outer : List Env) (s : Shared) (H : Hp) (E : XK) : Cx where
  prog := P
  w := w
  K := K
  mg := mg
  base := base
  A := A.deeper (envOfC qual scope s.heap.objs.size f cd)
  N := N
  s₀ := s
  H₀ := H
  env := envOfC qual scope s.heap.objs.size f cd
  outer := outer
  stack := envOfC qual scope s.heap.objs.size f cd :: outer
  ex := []
  calm := true
  fn := fun _ => true
  pn := []
  xe := fun e s' => wpAny (model P w) (A.deeper (envOfC qual scope s.heap.objs.size f cd)) (leaving (envOfC qual scope s.heap.objs.size f cd) e) (fun _ s'' => CX outer H s E e s'') (fun e' s'' => CX outer H s E e' s'') s'

theorem cell_has {sc : Scope} {n : Nat} {x : Str} (h : sc.names.lookup x = some .cell) : ∃ c, (cellsFrom n sc.names []).lookup x = some c := by
  have q := PySem.W.cellsFrom_some sc.names n [] (.inl h)
  exact Option.isSome_iff_exists.mp q

theorem inv_start {CX : CXT} {P : Program} {w : World} {K : PySem.W.Frag} {mg : Str → Option Value} {base : Heap} {N ps : List Str} {qual : Str} {scope : Scope} {f : Addr} {cd : Value} {A : Around} {outer : List Env} {s s1 : Shared} {H : Hp} {E : XK} {us : List Value} {vs : List V}
    (S : FnScope N ps scope) (hd : A.handled = none) (e0 : Env0 P w K mg base A outer s H) (hl : vs.length = ps.length) (r : Vals vs us)
    (x : InCallC s s.heap.objs.size (bindL (envOfC qual scope s.heap.objs.size f cd).kindOf (ps.zip us) fun _ => none) (cellsFrom (s.heap.objs.size + 1) scope.names []) (bindC (envOfC qual scope s.heap.objs.size f cd).kindOf (ps.zip us) fun _ => none) s1) :
    Inv (cxOf CX P w K mg base N qual scope f cd A outer s H E) [] (start N vs) H s1 := by
  have hpl : ps.length ≤ N.length := by have := congrArg List.length S.pre; rw [List.length_take] at this; omega
  obtain ⟨h1, tk, rfl, hk⟩ := x.done
  have noA : ∀ b : Addr, b ∉ (cxOf CX P w K mg base N qual scope f cd A outer s H E).ex := fun b z => absurd (show b ∈ ([] : List Addr) from z) (by simp)
  refine ⟨⟨e0.mod, S.kind, rfl, rfl, Nat.le_refl _, fun y z c h1 h2 => ?_, fun y hy => ?_, fun y c _ h => ?_, fun _ => hd, Around.frames_deeper e0.frames, .inr ⟨rfl, rfl⟩, fun b z => absurd z (noA b), e0.bs, e0.bsz, fun b _ _ => noA b, fun b z => absurd z (noA b), e0.funs, e0.frf⟩,
    rfl, e0.bare, Un.kept hk, ⟨_, x.toInCall.ns, fun i y v h1 h2 h3 => ?_⟩, fun y c h => ⟨_, x.cell y c h⟩, e0.hok.fresh (Nat.le_refl _), fun y c h => ?_, fun p hp => absurd (show p ∈ ([] : List (Addr × Obj)) from hp) (by simp), e0.hok.kept hk, ?_⟩
  · exact name_of_addr x.apart (PySem.mem_of_lookup h1) (PySem.mem_of_lookup h2)
  · have hy : scope.names.lookup y = some .cell ∨ scope.names.lookup y = some .free := hy
    rcases hy with hy | hy
    · exact cell_has hy
    · exact absurd rfl (S.nofree _ (PySem.mem_of_lookup hy))
  · exact Nat.le_of_lt (x.above y c (PySem.mem_of_lookup h))
  · have hi : i < vs.length := by
      unfold start at h2
      by_cases hi : i < vs.length
      · exact hi
      · rw [List.getElem?_append_right (by simpa using hi)] at h2
        rw [List.getElem?_replicate] at h2
        split at h2 <;> cases h2
    have ha : vs[i]? = some v := by
      unfold start at h2
      rw [List.getElem?_append_left (by simpa using hi), List.getElem?_map] at h2
      cases e : vs[i]? with
      | none => rw [e] at h2; cases h2
      | some a => rw [e] at h2; cases h2; rfl
    obtain ⟨u, hu, rv⟩ := r.get ha
    have hp : ps[i]? = some y := by
      rw [← S.pre, List.getElem?_take_of_lt (by omega)]; exact h1
    have ndP : ps.Nodup := by rw [← S.pre]; exact S.nd.sublist (List.take_sublist _ _)
    refine ⟨u, rv, ?_⟩
    rcases S.par y (List.mem_of_getElem? hp) with k | k
    · exact .inl ⟨k, bindL_get ndP hp hu k⟩
    · obtain ⟨c, e⟩ := cell_has (n := s.heap.objs.size + 1) k
      refine .inr ⟨.inl k, c, e, ?_⟩
      have q := x.cell y c e
      rw [bindC_get ndP hp hu (by show scope.names.lookup y ≠ _; rw [k]; decide)] at q
      exact q
  · exact e0.hok.fresh (Nat.le_of_lt (x.above y c (PySem.mem_of_lookup h)))
  · unfold start
    show _ = N.length
    rw [List.length_append, List.length_map, List.length_replicate]
    omega

theorem fn_of {CX : CXT} {P : Program} {w : World} {K : PySem.W.Frag} {mg : Str → Option Value} {base : Heap} {k : Nat} {f : Addr} {name qual : Str} {params : Arguments} {body : List Stmt} {scope : Scope} {dV kV doc pm cdv ct oc : Value} {an od : Option Addr}
    {osl : Array (Option Value)} {N ps : List Str} {sp : Sp} (lk : K.lookup f = some ⟨oc, od, .func (PySem.W.fnOf name qual params body scope dV kV doc pm an cdv ct), osl⟩) (hcd : PySem.W.codeIn K cdv qual = true) (S : FnScope N ps scope)
    (len : ∀ vs H Q E, sp vs H Q E → vs.length = ps.length)
    (hbody : ∀ (A : Around) (outer : List Env) (s : Shared) (H : Hp) (vs : List V) (Q : VK) (E : XK), Room k (A.deeper (envOfC qual scope s.heap.objs.size f cdv)) → sp vs H Q E →
      ∃ t, PSs (cxOf CX P w K mg base N qual scope f cdv A outer s H E) body t ∧ t { nx := fun _ H' => Q .non H', rt := Q } (start N vs) H) :
    FnOk P w K mg base CX (k + 1) f (PySem.W.fnOf name qual params body scope dV kV doc pm an cdv ct) ps sp := by
  refine ⟨len, fun A outer s H args us vs Q E hr e0 hb r hsp => ?_⟩
  have hl := len _ _ _ _ hsp
  have KX : K.In s.heap := e0.mod.kin.keeps fun b o e => (e0.bs b o e).1
  have lim : s.heap.NoLimit := e0.mod.nolimit.keeps fun b o e => (e0.bs b o e).1
  have hkind : ∀ y ∈ ps.zip us, scope.names.lookup y.1 = some .local ∨ (scope.names.lookup y.1 = some .cell ∧ ((cellsFrom (s.heap.objs.size + 1) scope.names []).lookup y.1).isSome = true) := fun ⟨n, v⟩ hy => by
    rcases S.par n (List.of_mem_zip hy).1 with q | q
    · exact .inl q
    · exact .inr ⟨q, PySem.W.cellsFrom_some _ _ _ (.inl q)⟩
  refine codeAny_call_function hr.depth (KX _ _ lk) rfl S.co S.gen rfl (PySem.W.codeRec_of KX hcd) (hb _ _ _ _ ?_)
  refine wpAny_newFunctionEnv_cells S.kind hkind fun env he s1 x => ?_
  subst he
  refine ⟨lim.keeps x.toInCall.keep, codeAny_func ?_⟩
  obtain ⟨t, ht, hq⟩ := hbody A outer s H vs Q E (hr.deeper _) hsp
  have I : Inv (cxOf CX P w K mg base N qual scope f cdv A outer s H E) [] (start N vs) H s1 := inv_start S hr.hd e0 hl r x
  refine wpAny_mono (ht [] s1 (start N vs) H _ I hq) (fun fl s' hs => ?_) fun e s' hs => hs
  have fin : ∀ {σ' : St} {H' : Hp} {v : V} {u : Value}, Inv (cxOf CX P w K mg base N qual scope f cdv A outer s H E) [] σ' H' s' → RelV v u → Q v H' → CE outer P w H s Q u s' :=
    fun {σ' H' v u} J rv q => ⟨v, H', J.os, J.bare, J.base, J.hok, rv, q⟩
  cases fl with
  | ret u =>
    obtain ⟨v, σ', H', J, rv, q⟩ := hs
    exact fin J rv q
  | next =>
    obtain ⟨σ', H', J, q⟩ := hs
    exact fin (v := V.non) (u := Value.none) J rfl q
  | brk =>
    obtain ⟨_, _, _, q⟩ := hs
    exact False.elim q
  | cont =>
    obtain ⟨_, _, _, q⟩ := hs
    exact False.elim q
end L2

namespace L2
open PySem PySem.Spec PyProof.Rows
section
variable {X : Cx} {x : Str} {p pos : Pos} {e : Expr} {es : List Expr} {t : TA} {id T : String} {r : List V → Hp → VK → Prop}

def tCB (r : List V → Hp → VK → Prop) (t : TA) : TE := fun σ H Q => t σ H fun vs H1 => r vs H1 Q
theorem pe_callB (hc : CallR X (.builtin id) r) (hg : Gl X x) (hm : X.mg x = none) (hv : bootBuiltins x = some (.builtin id)) (ha : PA X (e :: es) t) (hn : x ≠ "__name__" := by decide) (hdb : (x == ("__debug__" : Str)) = false := by decide)
    (he : starEach (e :: es) X.env = (false, eval e X.env) :: starEach es X.env := by rfl) (hpl : (backTo pos (starEach es X.env)).any (·.1) = false := by rfl) : PE X (.Call (.Name x p) (e :: es) [] pos) (tCB r t) := by
  intro pins s σ H Q I h
  refine wpAny_Call_Name_kw (ld_blt I hg hm hv ?_ hn hdb)
  refine PyProof.Rows.callWith_builtin1 (thn (ha pos pins s σ H _ I h) fun us s1 hx9 => ?_) he hpl
  obtain ⟨vs, H1, I1, r1, q1⟩ := hx9
  exact hc pins s1 σ H1 vs us Q I1 r1 q1
theorem pe_callTy (hc : CallR X (.type T) r) (hg : Gl X x) (hm : X.mg x = none) (hv : bootBuiltins x = some (.type T)) (ha : PA X (e :: es) t) (hn : x ≠ "__name__" := by decide) (hdb : (x == ("__debug__" : Str)) = false := by decide)
    (he : starEach (e :: es) X.env = (false, eval e X.env) :: starEach es X.env := by rfl) (hpl : (backTo pos (starEach es X.env)).any (·.1) = false := by rfl) : PE X (.Call (.Name x p) (e :: es) [] pos) (tCB r t) := by
  intro pins s σ H Q I h
  refine wpAny_Call_Name_kw (ld_blt I hg hm hv ?_ hn hdb)
  refine PyProof.Rows.callWith_type1 (thn (ha pos pins s σ H _ I h) fun us s1 hx9 => ?_) he hpl
  obtain ⟨vs, H1, I1, r1, q1⟩ := hx9
  exact hc pins s1 σ H1 vs us Q I1 r1 q1
end
end L2

namespace HT
open PySem PyProof.Rows

section
open PySem.SeqAt
open PySem.AutoSeq1 (wpAny_loadPart')
open PySem.MeetsSeq PySem.MeetsSeq2 PySem.MeetsSeq3

end

section
variable {prog : Program} {w : World} {A : Around} {E : Value → Shared → Prop} {s : Shared}

theorem cat_tup {t b : Addr} {vs ws : List Value} {Q : Value → Shared → Prop} (ht : IsTup s.heap t vs.toArray) (hb : IsTup s.heap b ws.toArray) (hv : vs ≠ [])
    (h1 : ws = [] → Q (.ref t) s) (h2 : ws ≠ [] → Q (.ref s.heap.objs.size) { s with heap := s.heap.push { cls := .type "tuple", data := .seq (vs ++ ws).toArray } })
    (hsz : vs.length + ws.length ≤ sizeLine) : wpAny (model prog w) A (binaryOp .Add (.ref t) (.ref b)) Q E s := by
  obtain ⟨⟨cls, dd, data, sl⟩, ho, hc, n, hd⟩ := id ht
  obtain ⟨⟨cls2, dd2, data2, sl2⟩, ho2, hc2, n2, hd2⟩ := id hb
  simp only at hc hd hc2 hd2
  subst hc hd hc2 hd2
  have e : vs.toArray ++ ws.toArray = (vs ++ ws).toArray := by simp
  by_cases hw : ws = []
  · exact concat_meets ⟨_, ho, rfl⟩ ⟨_, ho2, rfl⟩ noFill_tuple_add seq_tuple_add PySem.F.slot_tuple_add PySem.F.entry_tuple_add (PySem.F.args_tuple_add_2 _ _)
      (tuple_addW1 t b vs.toArray ws.toArray n n2 dd dd2 sl sl2 (by simpa using hv) (by simp [hw])) ⟨ho, ho2, h1 hw⟩
  · refine concat_meets ⟨_, ho, rfl⟩ ⟨_, ho2, rfl⟩ noFill_tuple_add seq_tuple_add PySem.F.slot_tuple_add PySem.F.entry_tuple_add (PySem.F.args_tuple_add_2 _ _)
      (tuple_addW2 t b vs.toArray ws.toArray n n2 dd dd2 sl sl2 (by simpa using hv) (by simpa using hw) (by rw [List.size_toArray, List.size_toArray]; exact hsz)) ⟨ho, ho2, ?_⟩
    rw [e]
    exact h2 hw

def sIx (n d : Nat) : Option Int → Nat
  | none => d
  | some v => if v < 0 then (v + (n : Int)).toNat else min v.toNat n
theorem sIx_le (n d : Nat) (hd : d ≤ n) (o : Option Int) : sIx n d o ≤ n := by
  cases o with
  | none => exact hd
  | some v =>
    show (if v < 0 then (v + (n : Int)).toNat else min v.toNat n) ≤ n
    by_cases hv : v < 0
    · rw [if_pos hv]; omega
    · rw [if_neg hv]; exact Nat.min_le_right _ _
theorem clip_eq (v : Int) (n d : Nat) : (if v < 0 then max (v + (n : Int)) 0 else min v (n : Int)) = ((sIx n d (some v) : Nat) : Int) := by
  show (if v < 0 then max (v + (n : Int)) 0 else min v (n : Int)) = (((if v < 0 then (v + (n : Int)).toNat else min v.toNat n) : Nat) : Int)
  by_cases hv : v < 0
  · simp only [if_pos hv]; omega
  · simp only [if_neg hv]; omega
theorem adjust_gen (lo hi : Option Int) (n : Nat) : Builtin.Slice.sliceAdjust lo hi 1 (n : Int) = (((sIx n 0 lo : Nat) : Int), ((sIx n n hi : Nat) : Int)) := by
  have h1 : ¬ ((1 : Int) < 0) := by omega
  unfold Builtin.Slice.sliceAdjust
  simp only [h1, if_false]
  refine Prod.ext ?_ ?_
  · cases lo with
    | none => rfl
    | some v => exact clip_eq v n 0
  · cases hi with
    | none => rfl
    | some v => exact clip_eq v n n
theorem places_gen (i j : Nat) : Builtin.Slice.slicePlaces (i : Int) (j : Int) 1 = j - i := by
  unfold Builtin.Slice.slicePlaces
  have h1 : (1 : Int) > 0 := by omega
  simp only [h1, if_true, Int.ediv_one]
  split <;> omega
theorem slicePart_ {v : Value} {o : Option Int} {Q : Option Int → Shared → Prop} (p : IsPart v o) (h : Q o s) : wpAny (model prog w) A (Builtin.Slice.slicePartIndex v) Q E s := by
  cases p with
  | none => exact slicePart_none h
  | int i t => exact slicePart_int h
theorem sliceApplied_gen {sl : Addr} {vl vu : Value} {lo hi : Option Int} {n : Nat} {Q : Int × Int × Nat → Shared → Prop} (hs : s.heap.IsSliceOf sl vl vu .none) (pl : IsPart vl lo) (pu : IsPart vu hi)
    (h : Q (((sIx n 0 lo : Nat) : Int), 1, sIx n n hi - sIx n 0 lo) s) : wpAny (model prog w) A (Builtin.Slice.sliceApplied (.ref sl) (pure (n : Int))) Q E s := by
  obtain ⟨os, hos, hcs, hds⟩ := id hs
  unfold Builtin.Slice.sliceApplied Builtin.Slice.sliceFields
  refine wpAny_bind (wpAny_bind (wpAny_field hos hds (x := vl) rfl (wpAny_bind (wpAny_field hos hds (x := vu) rfl (wpAny_bind (wpAny_field hos hds (x := .none) rfl (wpAny_pure ?_)))))))
  refine wpAny_bind (slicePart_none ?_)
  show wpAny _ _ (if ((1 : Int) == 0) = true then _ else _) _ _ s
  rw [if_neg (by decide)]
  refine wpAny_bind (slicePart_ pl (wpAny_bind (slicePart_ pu (wpAny_bind (wpAny_pure ?_)))))
  show wpAny _ _ (match Builtin.Slice.sliceAdjust lo hi 1 (n : Int) with | (lo, hi) => pure (lo, (1 : Int), Builtin.Slice.slicePlaces lo hi 1)) _ _ s
  rw [adjust_gen lo hi n]
  show wpAny _ _ (pure (((sIx n 0 lo : Nat) : Int), (1 : Int), Builtin.Slice.slicePlaces ((sIx n 0 lo : Nat) : Int) ((sIx n n hi : Nat) : Int) 1)) _ _ s
  rw [places_gen]
  exact wpAny_pure h
theorem pick_gen (xs : Array Value) (i k : Nat) : ((List.range k).filterMap fun (m : Nat) => xs[((i : Int) + (m : Int) * 1).toNat]?).toArray = ((xs.toList.drop i).take k).toArray := by
  have e : (fun (m : Nat) => xs[((i : Int) + (m : Int) * 1).toNat]?) = fun m => xs[i + m]? := by
    funext m
    have : ((i : Int) + (m : Int) * 1).toNat = i + m := by omega
    rw [this]
  rw [e]
  have := pick_run xs i k
  rw [List.filterMap_map] at this
  have e2 : ((fun x => xs[x]?) ∘ fun x => i + x) = fun m => xs[i + m]? := rfl
  rw [e2] at this
  rw [this]

theorem getItem_tuple_cut {t sl : Addr} {items : Array Value} {vl vu : Value} {lo hi : Option Int} {Q : Value → Shared → Prop} (ht : IsTup s.heap t items) (hs : s.heap.IsSliceOf sl vl vu .none) (pl : IsPart vl lo) (pu : IsPart vu hi)
    (hw : ¬ (sIx items.size 0 lo = 0 ∧ sIx items.size items.size hi = items.size))
    (h : Q (.ref s.heap.objs.size) { s with heap := s.heap.push { cls := .type "tuple", data := .seq ((items.toList.drop (sIx items.size 0 lo)).take (sIx items.size items.size hi - sIx items.size 0 lo)).toArray } })
    (hsz : items.size ≤ sizeLine) : wpAny (model prog w) A (getItem (.ref t) (.ref sl)) Q E s := by
  have htake : sizeOk (.seq ((items.toList.drop (sIx items.size 0 lo)).take (sIx items.size items.size hi - sIx items.size 0 lo)).toArray) := by
    show ((items.toList.drop (sIx items.size 0 lo)).take (sIx items.size items.size hi - sIx items.size 0 lo)).toArray.size ≤ sizeLine
    rw [List.size_toArray, List.length_take, List.length_drop, Array.length_toList]
    omega
  have hj : sIx items.size items.size hi ≤ items.size := sIx_le _ _ (Nat.le_refl _) hi
  obtain ⟨os, hos, hcs, hds⟩ := id hs
  have hTs : s.TypeIs (.ref sl) "slice" := ⟨os, hos, hcs⟩
  unfold getItem
  try with_reducible refine wpAny_holding ?_
  first | refine wpAny_bind (wpAny_pure ?_) | skip
  refine wpAny_bind (wpAny_sequenceKey ht.typeIs (by decide) ?_)
  refine wpAny_bind (wpAny_callSpecial?_slot (name := Str.ofString "__getitem__") ht.typeIs PyProof.Rows.slot_tuple_getitem
    (wpAny_call_entry PyProof.Rows.slot_tuple_getitem ht.typeIs entry_tuple_getitem ?_ (args_tuple_getitem _ _)))
  show wpAny _ _ (Builtin.Tuple.tupleItemsOf (.ref t) >>= _) _ _ s
  refine wpAny_bind (tupleItemsOf_ ht ?_)
  refine wpAny_bind (wpAny_typeOf hTs ?_)
  rw [if_pos (by decide)]
  refine wpAny_bind (sliceApplied_gen hs pl pu ?_)
  have hno : ¬ ((((sIx items.size 0 lo : Nat) : Int) == 0 && (1 : Int) == 1 && (sIx items.size items.size hi - sIx items.size 0 lo) == items.size) = true) := by
    intro q
    rw [Bool.and_eq_true, Bool.and_eq_true] at q
    have q1 : ((sIx items.size 0 lo : Nat) : Int) = 0 := eq_of_beq q.1.1
    have q2 : sIx items.size items.size hi - sIx items.size 0 lo = items.size := eq_of_beq q.2
    exact hw ⟨by omega, by omega⟩
  show wpAny _ _ (if (((sIx items.size 0 lo : Nat) : Int) == 0 && (1 : Int) == 1 && (sIx items.size items.size hi - sIx items.size 0 lo) == items.size) = true then _ else _) _ _ s
  rw [if_neg hno, pick_gen]
  first
    | exact wpAny_bind (m := Builtin.Tuple.tupleExact _) (wpAny_newObj_type (wpAny_pure ⟨_, rfl, wpAny_pure h⟩) htake)
    | exact wpAny_bind (m := Builtin.Tuple.tupleExact _) (wpAny_newObj_type (wpAny_bind (wpAny_pure (wpAny_pure ⟨_, rfl, wpAny_pure h⟩))) htake)
    | exact wpAny_bind (wpAny_bind (m := Builtin.Tuple.tupleExact _) (wpAny_newObj_type (wpAny_pure (wpAny_pure ⟨_, rfl, wpAny_pure h⟩)) htake))
    | exact wpAny_bind (wpAny_bind (m := Builtin.Tuple.tupleExact _) (wpAny_newObj_type (wpAny_pure ⟨_, rfl, wpAny_pure h⟩) htake))
end
end HT

namespace L2
open PySem PySem.Spec PyProof.Rows

abbrev TO := St → Hp → (Option Int → Hp → Prop) → Prop
def PO (X : Cx) (e : Option Expr) (t : TO) : Prop :=
  ∀ (pins : List (Addr × Obj)) (s : Shared) (σ : St) (H : Hp) (Q : Option Int → Hp → Prop), Inv X pins σ H s → t σ H Q →
    wpAny (model X.prog X.w) X.A (evalPart e X.env) (fun u s' => ∃ o H', Inv X pins σ H' s' ∧ IsPart u o ∧ Q o H') X.xe s
def tNoPart : TO := fun _ H Q => Q none H
def tPart (t : TE) : TO := fun σ H Q => t σ H fun x H1 => ∃ i, x = .int i ∧ Q (some i) H1

section
variable {X : Cx} {e : Expr} {te : TE} {lo hi : Option Expr} {tl th : TO} {pos p2 : Pos}

theorem po_none : PO X none tNoPart := by
  intro pins s σ H Q I h
  rw [evalPart_none]
  exact wpAny_pure ⟨none, H, I, .none, h⟩
theorem po_some (h : PE X e te) : PO X (some e) (tPart te) := by
  intro pins s σ H Q I hw
  rw [evalPart_some]
  refine thn (h pins s σ H _ I hw) fun u s1 hx9 => ?_
  obtain ⟨x, H1, I1, r1, q1⟩ := hx9
  obtain ⟨i, rfl, q⟩ := q1
  obtain ⟨t, rfl⟩ := r1
  exact ⟨some i, H1, I1, .int i t, q⟩

def SlR (X : Cx) (r : V → Option Int → Option Int → Hp → VK → Prop) : Prop :=
  ∀ (pins : List (Addr × Obj)) (s : Shared) (σ : St) (H : Hp) (x : V) (v vl vu : Value) (lo hi : Option Int) (sl : Addr) (Q : VK), Inv X pins σ H s → RelV x v → s.heap.IsSliceOf sl vl vu .none → IsPart vl lo → IsPart vu hi → r x lo hi H Q →
    ∃ T id, typeLookup (.type T) "__getitem__" = pure (some (.builtin id)) ∧ s.TypeIs v T ∧ wpAny (model X.prog X.w) X.A (getItem v (.ref sl)) (EP X pins σ Q) X.xe s
def tSl (r : V → Option Int → Option Int → Hp → VK → Prop) (te : TE) (tl th : TO) : TE := fun σ H Q => te σ H fun x H1 => tl σ H1 fun l H2 => th σ H2 fun u H3 => r x l u H3 Q
theorem pe_slice {r : V → Option Int → Option Int → Hp → VK → Prop} (hr : SlR X r) (he : PE X e te) (hl : PO X lo tl) (hu : PO X hi th) : PE X (.Subscript e (.Slice lo hi none p2) pos) (tSl r te tl th) := by
  intro pins s σ H Q I h
  refine Subscript_ (thn (he pins s σ H _ I h) fun v s1 hx9 => ?_)
  obtain ⟨x, H1, I1, r1, q1⟩ := hx9
  refine wpAny_Slice (thn (hl pins s1 σ H1 _ I1 q1) fun vl s2 ⟨l, H2, I2, pl, q2⟩ => thn (hu pins s2 σ H2 _ I2 q2) fun vu s3 hx9 => ?_)
  obtain ⟨u, H3, I3, pu, q3⟩ := hx9
  rw [evalPart_none]
  refine wpAny_pure ?_
  have I4 : Inv X pins σ H3 { s3 with heap := s3.heap.push { cls := .type "slice", data := .fields #[vl, vu, .none] } } := I3.kept (t' := s3.toks) fun b ob q => Heap.get?_push_of_some _ q
  obtain ⟨T, id, hT, ht, hg⟩ := hr pins { s3 with heap := s3.heap.push { cls := .type "slice", data := .fields #[vl, vu, .none] } } σ H3 x v vl vu l u s3.heap.objs.size Q I4 r1 (Heap.IsSliceOf.new ..) pl pu q3
  show wpAny (model X.prog X.w) X.A (subscriptTail e (.Slice lo hi none p2) v (.ref s3.heap.objs.size)) (EP X pins σ Q) X.xe { s3 with heap := s3.heap.push { cls := .type "slice", data := .fields #[vl, vu, .none] } }
  exact tail_any (ops := [.ref s3.heap.objs.size, v]) ht hT hg (by with_unfolding_all rfl)

def cutV (xs : List V) (lo hi : Option Int) : List V := (xs.drop (HT.sIx xs.length 0 lo)).take (HT.sIx xs.length xs.length hi - HT.sIx xs.length 0 lo)
theorem cutV_length (xs : List V) (lo hi : Option Int) : (cutV xs lo hi).length ≤ xs.length := by
  unfold cutV
  rw [List.length_take, List.length_drop]
  exact Nat.le_trans (Nat.min_le_right _ _) (Nat.sub_le _ _)
def rSlT (K : PySem.W.Frag) : V → Option Int → Option Int → Hp → VK → Prop := fun x lo hi H Q => ∃ a xs, x = .ref a ∧ SqT K H a xs ∧
  ¬ (HT.sIx xs.length 0 lo = 0 ∧ HT.sIx xs.length xs.length hi = xs.length) ∧ ∀ p, H p = none → Q (.ref p) (upd H p (.tup (cutV xs lo hi)))
theorem sl_tup : SlR X (rSlT X.K) := by
  intro pins s σ H x v vl vu lo hi sl Q I rx hs pl pu h
  obtain ⟨a, xs, rfl, hx, hw, q⟩ := h
  cases rx
  obtain ⟨its, r, ht, hz⟩ := I.tuple hx
  have hlen : its.toArray.size = xs.length := by rw [List.size_toArray]; exact r.length.symm
  refine ⟨"tuple", _, PyProof.Rows.slot_tuple_getitem.lookup, ht.typeIs, ?_⟩
  refine HT.getItem_tuple_cut ht hs pl pu (by rw [hlen]; exact hw) ?_ (by rw [hlen]; exact hz)
  rw [hlen]
  refine ⟨.ref s.heap.objs.size, _, I.laid (t' := s.toks) (o := .tup (cutV xs lo hi)) (fun b ob q => Heap.get?_push_of_some _ q) (Nat.le_refl _) ?_, rfl, q _ (I.hok.fresh (Nat.le_refl _))⟩
  exact ⟨Nat.le_trans (cutV_length xs lo hi) hz, _, 0, (r.drop (HT.sIx xs.length 0 lo)).take (HT.sIx xs.length xs.length hi - HT.sIx xs.length 0 lo), Heap.get?_push_size _ rfl⟩

def rCatT (K : PySem.W.Frag) : R2 := fun x y H Q => ∃ a b xs ys, x = .ref a ∧ y = .ref b ∧ SqT K H a xs ∧ SqT K H b ys ∧ xs ≠ [] ∧ xs.length + ys.length ≤ sizeLine ∧
  (ys = [] → Q (.ref a) H) ∧ (ys ≠ [] → ∀ p, H p = none → Q (.ref p) (upd H p (.tup (xs ++ ys))))
theorem Vals.nil_iff {xs : List V} {us : List Value} (r : Vals xs us) : us = [] ↔ xs = [] := by
  cases r with
  | nil => simp
  | cons _ _ => simp
theorem op_catT : OpR X (binaryOp .Add) (rCatT X.K) := by
  intro pins s σ H x y v u Q I rx ry h
  obtain ⟨a, b, xs, ys, rfl, rfl, ha, hb, hx, hz, q1, q2⟩ := h
  cases rx
  cases ry
  obtain ⟨its, r1, p1, _⟩ := I.tuple ha
  obtain ⟨its2, r2, p2, _⟩ := I.tuple hb
  refine HT.cat_tup p1 p2 (fun z => hx (r1.nil_iff.mp z)) (fun z => ⟨.ref a, H, I, rfl, q1 (r2.nil_iff.mp z)⟩) (fun z => ?_) (by rw [← r1.length, ← r2.length]; exact hz)
  refine ⟨.ref s.heap.objs.size, _, I.laid (t' := s.toks) (o := .tup (xs ++ ys)) (fun b ob q => Heap.get?_push_of_some _ q) (Nat.le_refl _) ?_, rfl, q2 (fun w => z (r2.nil_iff.mpr w)) _ (I.hok.fresh (Nat.le_refl _))⟩
  exact ⟨by rw [List.length_append]; exact hz, _, 0, r1.append r2, Heap.get?_push_size _ rfl⟩
end
end L2

namespace L2
open PySem PySem.Spec PyProof.Rows

def ixN (n : Nat) (i : Int) : Option Nat := if 0 ≤ i then (if i < n then some i.toNat else none) else if -(n : Int) ≤ i then some (i + n).toNat else none
def atI {α : Type} (xs : List α) (i : Int) : Option α := (ixN xs.length i).bind fun j => xs[j]?
theorem ixN_seq {n : Nat} {i : Int} {j : Nat} (h : ixN n i = some j) : seqIndex? i n = some j ∧ j < n ∧ -(n : Int) ≤ i ∧ i < n := by
  unfold ixN at h
  by_cases h0 : 0 ≤ i
  · rw [if_pos h0] at h
    by_cases h1 : i < n
    · rw [if_pos h1] at h
      have e : i.toNat = j := Option.some.inj h
      exact ⟨by rw [seqIndex_of h0 h1, e], by omega, by omega, h1⟩
    · rw [if_neg h1] at h; cases h
  · rw [if_neg h0] at h
    by_cases h1 : -(n : Int) ≤ i
    · rw [if_pos h1] at h
      have e : (i + n).toNat = j := Option.some.inj h
      exact ⟨by rw [seqIndex_neg (by omega) h1, e], by omega, h1, by omega⟩
    · rw [if_neg h1] at h; cases h
theorem atI_get {α : Type} {xs : List α} {i : Int} {v : α} (h : atI xs i = some v) : ∃ j, seqIndex? i xs.length = some j ∧ xs[j]? = some v ∧ j < xs.length ∧ -(xs.length : Int) ≤ i ∧ i < xs.length := by
  unfold atI at h
  cases e : ixN xs.length i with
  | none => rw [e] at h; cases h
  | some j =>
    rw [e] at h
    obtain ⟨h1, h2, h3, h4⟩ := ixN_seq e
    exact ⟨j, h1, h, h2, h3, h4⟩
theorem atI_nat {α : Type} {xs : List α} {j : Nat} {v : α} (h : xs[j]? = some v) : atI xs (j : Int) = some v := by
  have hj : j < xs.length := (List.getElem?_eq_some_iff.mp h).1
  have e : ixN xs.length (j : Int) = some j := by
    unfold ixN
    rw [if_pos (by omega), if_pos (by omega)]; simp
  unfold atI; rw [e]; exact h
theorem atI_last {α : Type} (xs : List α) (v : α) : atI (xs ++ [v]) (-1) = some v := by
  have hl : (xs ++ [v]).length = xs.length + 1 := by simp
  have e : ixN (xs ++ [v]).length (-1) = some xs.length := by
    unfold ixN
    rw [hl, if_neg (by decide), if_pos (by omega)]
    congr 1
    omega
  unfold atI
  rw [e]
  show (xs ++ [v])[xs.length]? = some v
  simp

def PlainIx (b : Expr) : Prop := ∀ o i, subscripted b false o i = operate [o, i] (getItem o i)
def IxR (X : Cx) (r : R2) : Prop :=
  ∀ (value slice : Expr) (pins : List (Addr × Obj)) (s : Shared) (σ : St) (H : Hp) (x y : V) (v u : Value) (Q : VK), Inv X pins σ H s → RelV x v → RelV y u → r x y H Q →
    subscripted slice false v u = operate [v, u] (getItem v u) → wpAny (model X.prog X.w) X.A (subscriptTail value slice v u) (EP X pins σ Q) X.xe s
def MtR (X : Cx) (id : String) (r : V → List V → Hp → VK → Prop) : Prop :=
  ∀ (pins : List (Addr × Obj)) (s : Shared) (σ : St) (H : Hp) (x : V) (xs : List V) (v : Value) (us : List Value) (Q : VK), Inv X pins σ H s → RelV x v → Vals xs us → r x xs H Q →
    wpAny (model X.prog X.w) X.A (call (.builtin id) (v :: us)) (EP X pins σ Q) X.xe s
section
variable {X : Cx} {a b : Expr} {ta tb : TE} {pos : Pos}
theorem pe_ix {r : R2} (hr : IxR X r) (ha : PE X a ta) (hb : PE X b tb) (hs : PlainIx b) : PE X (.Subscript a b pos) (tOp r ta tb) := by
  intro pins s σ H Q I h
  exact Subscript_ (binT ha hb I h fun v u s2 x y H2 I2 rx ry q => hr a b pins s2 σ H2 x y v u Q I2 rx ry q (hs _ _))

def rIxL (K : PySem.W.Frag) : R2 := fun x y H Q => ∃ p xs i v, x = .ref p ∧ y = .int i ∧ SqL K H p xs ∧ atI xs i = some v ∧ Q v H
def rIxT (K : PySem.W.Frag) : R2 := fun x y H Q => ∃ p xs i v, x = .ref p ∧ y = .int i ∧ SqT K H p xs ∧ atI xs i = some v ∧ Q v H
def rIxS : R2 := fun x y H Q => ∃ z i c, x = .str z ∧ y = .int i ∧ z.length ≤ sizeLine ∧ atI z.cps.toList i = some c ∧ Q (.str ⟨#[c]⟩) H
theorem ix_list : IxR X (rIxL X.K) := by
  intro value slice pins s σ H x y v u Q I rx ry h hs
  obtain ⟨p, xs, i, z, rfl, rfl, hq, he, q⟩ := h
  cases rx
  obtain ⟨t, rfl⟩ := ry
  obtain ⟨its, r, pl, hz⟩ := I.list hq
  obtain ⟨j, h1, h2, h3, h4, h5⟩ := atI_get he
  obtain ⟨w, ew, rw'⟩ := r.get h2
  have hl := r.length
  have hn := line63
  have fin : EP X pins σ Q w s := ⟨z, H, I, rw', q⟩
  by_cases h0 : 0 ≤ i
  · have hj : i.toNat = j := by
      rw [seqIndex_of h0 h5] at h1
      exact Option.some.inj h1
    exact item_listR pl.isList h0 (by omega) (by rw [hj]; simpa using ew) fin hs
  · have hj : (i + (its.toArray.size : Int)).toNat = j := by
      rw [seqIndex_neg (by omega) h4] at h1
      rw [List.size_toArray, ← hl]
      exact Option.some.inj h1
    exact subscriptTail_builtinR (x := w) pl.isList.typeIs slot_list_getitem.lookup
      (wpAny_getItem_list_neg (Q := fun r s' => r = w ∧ EP X pins σ Q r s') pl.isList (by omega) (by rw [List.size_toArray] <;> omega) (by omega) (by rw [hj]; simpa using ew) ⟨rfl, fin⟩) hs
theorem ix_tup : IxR X (rIxT X.K) := by
  intro value slice pins s σ H x y v u Q I rx ry h hs
  obtain ⟨p, xs, i, z, rfl, rfl, hq, he, q⟩ := h
  cases rx
  obtain ⟨t, rfl⟩ := ry
  obtain ⟨its, r, pl, hz⟩ := I.tuple hq
  obtain ⟨j, h1, h2, h3, h4, h5⟩ := atI_get he
  obtain ⟨w, ew, rw'⟩ := r.get h2
  have hl := r.length
  have hn := line63
  have fin : EP X pins σ Q w s := ⟨z, H, I, rw', q⟩
  exact subscriptTail_builtinR (x := w) pl.typeIs slot_tuple_getitem.lookup
    (getItem_tuple (j := j) (Q := fun r s' => r = w ∧ EP X pins σ Q r s') pl (by omega) (by omega) (by rw [List.size_toArray, ← hl]; exact h1) (by simpa using ew) ⟨rfl, fin⟩) hs
theorem ix_str : IxR X rIxS := by
  intro value slice pins s σ H x y v u Q I rx ry h hs
  obtain ⟨z, i, c, rfl, rfl, hz, he, q⟩ := h
  obtain ⟨t, rfl⟩ := rx
  obtain ⟨t', rfl⟩ := ry
  obtain ⟨j, h1, h2, h3, h4, h5⟩ := atI_get he
  have hl : z.cps.toList.length = z.length := by simp [Str.length]
  rw [hl] at h1 h4 h5
  have hn := line63
  exact tail_any (typeIs_str s z t) slot_str_getitem.lookup (getItem_str (c := c) (by
    have e1 : decide (i < -(2 ^ 63 : Int)) = false := decide_eq_false (by omega)
    have e2 : decide (i ≥ 2 ^ 63) = false := decide_eq_false (by omega)
    rw [e1, e2, Bool.or_false]) (by rw [h1]; simpa using h2) ⟨.str ⟨#[c]⟩, H, I.tok _, ⟨_, rfl⟩, q⟩) hs
theorem mapSeq_set (its : List Value) (n j : Nat) (u : Value) : Obj.mapSeq (·.setIfInBounds j u) { cls := .type "list", data := .seq its.toArray n } = { cls := .type "list", data := .seq (its.set j u).toArray n } := by
  simp [Obj.mapSeq]
theorem Inv.lst {pins : List (Addr × Obj)} {σ : St} {H : Hp} {s : Shared} {p : Addr} {xs : List V} (I : Inv X pins σ H s) (h : H p = some (.lst xs)) :
    ∃ (its : List Value) (n : Nat), Vals xs its ∧ s.heap.get? p = some { cls := .type "list", data := .seq its.toArray n } ∧ xs.length ≤ sizeLine := by
  obtain ⟨z, its, n, r, e⟩ := I.hok p _ h
  exact ⟨its, n, r, e, z⟩
theorem Inv.lstUpd {pins : List (Addr × Obj)} {σ : St} {H : Hp} {s : Shared} {p : Addr} {xs ys : List V} {its its' : List Value} {n n' : Nat} {f : Obj → Obj} (I : Inv X pins σ H s) (h : H p = some (.lst xs))
    (ho : s.heap.get? p = some { cls := .type "list", data := .seq its.toArray n }) (hf : f { cls := .type "list", data := .seq its.toArray n } = { cls := .type "list", data := .seq its'.toArray n' }) (r : Vals ys its') (hz : ys.length ≤ sizeLine) (t : Nat) :
    Inv X pins σ (upd H p (.lst ys)) { s with heap := s.heap.update p f, toks := t } := by
  have e : (s.heap.update p f).get? p = some { cls := .type "list", data := .seq its'.toArray n' } := by
    rw [Heap.get?_update_self f ho (by rw [hf] <;> rfl), hf]
  refine I.write (x := p) (e := p) (by rw [h]; trivial) (.inl rfl) (fun b u hb q => (Heap.get?_update_other _ _ (Ne.symm hb)).trans q) ⟨_, e⟩ ?_
  exact ⟨hz, its', n', r, e⟩
def rSetL : V → V → V → Hp → (Hp → Prop) → Prop := fun o i v H Q => ∃ p xs k j, o = .ref p ∧ i = .int k ∧ H p = some (.lst xs) ∧ ixN xs.length k = some j ∧ Q (upd H p (.lst (xs.set j v)))
theorem set_list : PSet X rSetL := by
  intro pins s σ H o i v ov iv u Q I ro ri rv h
  obtain ⟨p, xs, k, j, rfl, rfl, hp, hj, q⟩ := h
  cases ro
  obtain ⟨t, rfl⟩ := ri
  obtain ⟨its, n, r, ho, hz⟩ := I.lst hp
  obtain ⟨h1, h2, h3, h4⟩ := ixN_seq hj
  have hl := r.length
  have hn := line63
  have I' : Inv X pins σ (upd H p (.lst (xs.set j v))) { s with heap := s.heap.update p (Obj.mapSeq (·.setIfInBounds j u)) } :=
    I.lstUpd hp ho (mapSeq_set its n j u) (r.set rv j) (by rw [List.length_set]; exact hz) s.toks
  by_cases h0 : 0 ≤ k
  · have hk : k.toNat = j := by
      rw [seqIndex_of h0 h4] at h1
      exact Option.some.inj h1
    exact PySem.W.ki_setAt ho h0 (by omega) (by rw [List.size_toArray, ← hl]; exact h4) (by rw [hk]; exact ⟨_, I', q⟩)
  · have hk : (k + (its.toArray.size : Int)).toNat = j := by
      rw [seqIndex_neg (by omega) h3] at h1
      rw [List.size_toArray, ← hl]
      exact Option.some.inj h1
    exact PySem.W.ki_setBack ho (by omega) (by rw [List.size_toArray, ← hl]; exact h3) (by omega) (by rw [hk]; exact ⟨_, I', q⟩)

theorem slice_bounds (lo hi : Option Int) (n : Nat) : (sliceBounds lo hi none n).1 = ((HT.sIx n 0 lo : Nat) : Int) ∧ (sliceBounds lo hi none n).2.1 = ((HT.sIx n n hi : Nat) : Int) ∧ (sliceBounds lo hi none n).2.2 = 1 := by
  refine ⟨?_, ?_, rfl⟩
  · cases lo with
    | none => simp [sliceBounds, HT.sIx]
    | some i =>
      simp only [sliceBounds, HT.sIx, Option.getD_none, show (1 : Int) > 0 by decide, if_true]
      by_cases h : i < 0
      · simp only [h, if_true] <;> omega
      · simp only [h, if_false] <;> omega
  · cases hi with
    | none => simp [sliceBounds, HT.sIx]
    | some i =>
      simp only [sliceBounds, HT.sIx, Option.getD_none, show (1 : Int) > 0 by decide, if_true]
      by_cases h : i < 0
      · simp only [h, if_true] <;> omega
      · simp only [h, if_false] <;> omega
theorem slicePick_cut (its : List Value) (lo hi : Option Int) : slicePick its.toArray lo hi none = ((its.drop (HT.sIx its.length 0 lo)).take (HT.sIx its.length its.length hi - HT.sIx its.length 0 lo)).toArray := by
  obtain ⟨h1, h2, h3⟩ := slice_bounds lo hi its.toArray.size
  unfold slicePick
  rw [h1, h2, h3]
  simp only [sliceRange_one, pick_run, List.size_toArray] <;> rfl
def rSlL (K : PySem.W.Frag) : V → Option Int → Option Int → Hp → VK → Prop := fun x lo hi H Q => ∃ a xs, x = .ref a ∧ SqL K H a xs ∧ ∀ p, H p = none → Q (.ref p) (upd H p (.lst (cutV xs lo hi)))
theorem sl_list : SlR X (rSlL X.K) := by
  intro pins s σ H x v vl vu lo hi sl Q I rx hs pl pu h
  obtain ⟨a, xs, rfl, hx, q⟩ := h
  cases rx
  obtain ⟨its, r, ht, hz⟩ := I.list hx
  have hlen := r.length
  refine ⟨"list", _, slot_list_getitem.lookup, ht.isList.typeIs, ?_⟩
  refine wpAny_getItem_list_slice ht.isList hs pl pu .none (by simp) ?_ (by rw [List.size_toArray] <;> omega)
  rw [slicePick_cut, ← hlen]
  refine ⟨.ref s.heap.objs.size, _, I.laid (t' := s.toks) (o := .lst (cutV xs lo hi)) (fun b ob q => Heap.get?_push_of_some _ q) (Nat.le_refl _) ?_, rfl, q _ (I.hok.fresh (Nat.le_refl _))⟩
  exact ⟨Nat.le_trans (cutV_length xs lo hi) hz, _, 0, (r.drop (HT.sIx xs.length 0 lo)).take (HT.sIx xs.length xs.length hi - HT.sIx xs.length 0 lo), Heap.get?_push_size _ rfl⟩

def flatV : V → Bool
  | .non => true
  | .bl _ => true
  | .int _ => true
  | .str _ => true
  | _ => false
def eqV : V → V → Bool
  | .non, .non => true
  | .bl a, .bl b => a == b
  | .bl a, .int b => (if a then 1 else 0) == b
  | .int a, .bl b => a == (if b then 1 else 0)
  | .int a, .int b => a == b
  | .str a, .str b => a == b
  | _, _ => false
theorem eqAt_V {A : Around} {s : Shared} {y x : V} {u v : Value} (ry : RelV y u) (rx : RelV x v) (fy : flatV y = true) (fx : flatV x = true) : SeqAt.EqAt A s u v (eqV y x) := by
  cases y with
  | non =>
    cases ry
    cases x with
    | non => cases rx; exact SeqAt.EqAt.same _
    | bl b => cases rx; exact SeqAt.EqAt.none_bool b
    | int b => obtain ⟨t, rfl⟩ := rx; exact SeqAt.EqAt.none_int b t
    | str b => obtain ⟨t, rfl⟩ := rx; exact SeqAt.EqAt.none_str b t
    | _ => exact absurd (show false = true from fx) Bool.false_ne_true
  | bl a =>
    cases ry
    cases x with
    | non => cases rx; exact SeqAt.EqAt.bool_none a
    | bl b => cases rx; exact SeqAt.EqAt.bool_bool a b
    | int b => obtain ⟨t, rfl⟩ := rx; exact SeqAt.EqAt.bool_int a b t
    | str b => obtain ⟨t, rfl⟩ := rx; exact SeqAt.EqAt.bool_str a b t
    | _ => exact absurd (show false = true from fx) Bool.false_ne_true
  | int a =>
    obtain ⟨t', rfl⟩ := ry
    cases x with
    | non => cases rx; exact SeqAt.EqAt.int_none a t'
    | bl b => cases rx; exact SeqAt.EqAt.int_bool a t' b
    | int b => obtain ⟨t, rfl⟩ := rx; exact SeqAt.EqAt.int_int a t' b t
    | str b => obtain ⟨t, rfl⟩ := rx; exact SeqAt.EqAt.int_str a t' b t
    | _ => exact absurd (show false = true from fx) Bool.false_ne_true
  | str a =>
    obtain ⟨t', rfl⟩ := ry
    cases x with
    | non => cases rx; exact SeqAt.EqAt.str_none a t'
    | bl b => cases rx; exact SeqAt.EqAt.str_bool a t' b
    | int b => obtain ⟨t, rfl⟩ := rx; exact SeqAt.EqAt.str_int a t' b t
    | str b => obtain ⟨t, rfl⟩ := rx; exact SeqAt.EqAt.str_str a t' b t
    | _ => exact absurd (show false = true from fx) Bool.false_ne_true
  | _ => exact absurd (show false = true from fy) Bool.false_ne_true
def eqU (x : V) (u : Value) : Bool := match u with
  | .none => eqV .non x
  | .bool b => eqV (.bl b) x
  | .int i _ => eqV (.int i) x
  | .str z _ => eqV (.str z) x
  | _ => false
theorem eqU_of {x y : V} {u : Value} (r : RelV y u) (f : flatV y = true) : eqU x u = eqV y x := by
  cases y with
  | non => cases r; rfl
  | bl b => cases r; rfl
  | int i => obtain ⟨t, rfl⟩ := r; rfl
  | str z => obtain ⟨t, rfl⟩ := r; rfl
  | _ => exact absurd (show false = true from f) Bool.false_ne_true
theorem any_eqU {x : V} : ∀ {xs : List V} {us : List Value}, Vals xs us → xs.all flatV = true → us.any (eqU x) = xs.any fun y => eqV y x
  := by
  intro xs us h
  induction h with
  | nil => intro _; rfl
  | cons r t ih =>
    intro f
    rw [List.all_cons, Bool.and_eq_true] at f
    rw [List.any_cons, List.any_cons, eqU_of r f.1, ih f.2]
theorem mem_eqAt {A : Around} {s : Shared} {x : V} {v : Value} (rx : RelV x v) (fx : flatV x = true) : ∀ {xs : List V} {us : List Value}, Vals xs us → xs.all flatV = true → ∀ u ∈ us, SeqAt.EqAt A s u v (eqU x u)
  | _, _, .nil, _ => fun u hu => by cases hu
  | y :: xs, u :: us, .cons r t, f => fun u' hu => by
    rw [List.all_cons, Bool.and_eq_true] at f
    rcases List.mem_cons.mp hu with rfl | hu
    · rw [eqU_of r f.1]; exact eqAt_V r rx f.1 fx
    · exact mem_eqAt rx fx t f.2 u' hu
def inV (x : V) (xs : List V) : Bool := xs.any fun y => eqV y x
def rIn (K : PySem.W.Frag) (neg : Bool) : R2 := fun x y H Q => ∃ p xs, y = .ref p ∧ (SqL K H p xs ∨ SqT K H p xs) ∧ flatV x = true ∧ xs.all flatV = true ∧ Q (.bl (if neg then !inV x xs else inV x xs)) H
theorem op_in_seq : OpR X (compareOp .In) (rIn X.K false) := by
  intro pins s σ H x y v u Q I rx ry h
  obtain ⟨p, xs, rfl, hq, fx, fs, q⟩ := h
  cases ry
  rcases hq with hq | hq
  · obtain ⟨its, r, pl, hz⟩ := I.list hq
    refine SeqAt.in_listAt (eqU x) pl.isList (fun w hw => mem_eqAt rx fx r fs w (by simpa using hw)) ⟨.bl _, H, I, rfl, ?_⟩
    rw [show its.toArray.any (eqU x) = its.any (eqU x) by simp, any_eqU r fs]
    exact q
  · obtain ⟨its, r, pl, hz⟩ := I.tuple hq
    refine SeqAt.in_tupleAt (eqU x) pl (fun w hw => mem_eqAt rx fx r fs w (by simpa using hw)) ⟨.bl _, H, I, rfl, ?_⟩
    rw [show its.toArray.any (eqU x) = its.any (eqU x) by simp, any_eqU r fs]
    exact q
theorem call_len_seq : CallR X (.builtin "len") (fun xs H Q => ∃ p ys, xs = [.ref p] ∧ (SqL X.K H p ys ∨ SqT X.K H p ys) ∧ Q (.int ys.length) H) := by
  intro pins s σ H xs us Q I r h
  obtain ⟨p, ys, rfl, hq, q⟩ := h
  obtain ⟨u, rfl, rx⟩ := vals1 r
  cases rx
  have hn := line63
  rcases hq with hq | hq
  · obtain ⟨its, r', pl, hz⟩ := I.list hq
    have hlen := r'.length
    exact Calls.call_len_list pl.isList (by simp only [List.size_toArray] <;> omega) ⟨.int ys.length, H, I.tok _, ⟨s.toks + 1, by rw [List.size_toArray, hlen]⟩, q⟩
  · obtain ⟨its, r', pl, hz⟩ := I.tuple hq
    have hlen := r'.length
    exact len_tuple pl (by simp only [List.size_toArray] <;> omega) ⟨.int ys.length, H, I.tok _, ⟨s.toks + 1, by rw [List.size_toArray, hlen]⟩, q⟩
theorem call_len_str : CallR X (.builtin "len") (fun xs H Q => ∃ z, xs = [.str z] ∧ z.length ≤ sizeLine ∧ Q (.int z.length) H) := by
  intro pins s σ H xs us Q I r h
  obtain ⟨z, rfl, hz, q⟩ := h
  obtain ⟨u, rfl, t, rfl⟩ := vals1 r
  have hn := line63
  exact len_str (by omega) ⟨.int z.length, H, I.tok _, ⟨_, rfl⟩, q⟩
theorem call_list_of : CallR X (.type "list") (fun xs H Q => ∃ p ys, xs = [.ref p] ∧ (SqL X.K H p ys ∨ SqT X.K H p ys) ∧ ∀ l, H l = none → Q (.ref l) (upd H l (.lst ys))) := by
  intro pins s σ H xs us Q I r h
  obtain ⟨p, ys, rfl, hq, q⟩ := h
  obtain ⟨u, rfl, rx⟩ := vals1 r
  cases rx
  have fin : ∀ (its : List Value), Vals ys its → ys.length ≤ sizeLine → ∀ (h' : Heap) (c' : Nat), (∀ b o', s.heap.get? b = some o' → h'.get? b = some o') →
      h'.get? s.heap.objs.size = some { cls := .type "list", dict := none, data := .seq its.toArray c', slots := #[] } → EP X pins σ Q (.ref s.heap.objs.size) { s with heap := h' } := fun its r' hz h' c' kp e =>
    ⟨.ref s.heap.objs.size, _, I.laid (t' := s.toks) kp (Nat.le_refl _) (show ObjOk X.prog X.w _ h' _ (.lst ys) from ⟨hz, its, c', r', e⟩), rfl, q _ (I.hok.fresh (Nat.le_refl _))⟩
  rcases hq with hq | hq
  · obtain ⟨its, r', pl, hz⟩ := I.list hq
    have hlen := r'.length
    obtain ⟨o, ho, hc, n, hd⟩ := pl.isList
    exact call_list_seq p (.inl rfl) ho hc hd (fun h' c' kp e => fin its r' hz h' c' kp e) (by simp only [List.size_toArray] <;> omega)
  · obtain ⟨its, r', pl, hz⟩ := I.tuple hq
    have hlen := r'.length
    obtain ⟨o, ho, hc, n, hd⟩ := pl
    exact call_list_seq p (.inr rfl) ho hc hd (fun h' c' kp e => fin its r' hz h' c' kp e) (by simp only [List.size_toArray] <;> omega)
theorem call_tuple_of : CallR X (.type "tuple") (fun xs H Q => ∃ p ys, xs = [.ref p] ∧ ((SqL X.K H p ys ∧ ∀ l, H l = none → Q (.ref l) (upd H l (.tup ys))) ∨ (SqT X.K H p ys ∧ Q (.ref p) H))) := by
  intro pins s σ H xs us Q I r h
  obtain ⟨p, ys, rfl, h⟩ := h
  obtain ⟨u, rfl, rx⟩ := vals1 r
  cases rx
  rcases h with ⟨hq, q⟩ | ⟨hq, q⟩
  · obtain ⟨its, r', pl, hz⟩ := I.list hq
    have hlen := r'.length
    refine call_tuple_list pl.isList (fun h' kp => ?_) (by simp only [List.size_toArray] <;> omega)
    have I1 : Inv X pins σ H { s with heap := h' } := I.kept (t' := s.toks) kp
    have I2 : Inv X pins σ (upd H h'.objs.size (.tup ys)) { s with heap := h'.push { cls := .type "tuple", data := .seq its.toArray } } :=
      I1.laid (t' := s.toks) (fun b o e => Heap.get?_push_of_some _ e) (Nat.le_refl _) (show ObjOk X.prog X.w _ _ _ (.tup ys) from ⟨hz, its, 0, r', Heap.get?_push_size _ rfl⟩)
    exact ⟨.ref h'.objs.size, _, I2, rfl, q _ (I1.hok.fresh (Nat.le_refl _))⟩
  · obtain ⟨its, r', pl, hz⟩ := I.tuple hq
    exact call_tuple_same pl ⟨.ref p, H, I, rfl, q⟩

def tyV (K : PySem.W.Frag) (T : String) (x : V) (H : Hp) : Prop := match x with
  | .str _ => T = "str"
  | .int _ => T = "int"
  | .ref p => (T = "list" ∧ ∃ xs, SqL K H p xs) ∨ (T = "tuple" ∧ ∃ xs, SqT K H p xs) ∨
      (T = "dict" ∧ ((∃ kvs, H p = some (.dK kvs)) ∨ ∃ kvs, H p = some (.dT kvs))) ∨ (T = "set" ∧ ∃ S n, H p = some (.set S n))
  | _ => False
theorem tyV_is {pins : List (Addr × Obj)} {σ : St} {H : Hp} {s : Shared} {T : String} {x : V} {v : Value} (I : Inv X pins σ H s) (r : RelV x v) (ty : tyV X.K T x H) :
    s.TypeIs v T ∧ ∀ a, v = .ref a → ∃ ob, s.heap.get? a = some ob ∧ ob.dict = none := by
  cases x with
  | str z =>
    obtain ⟨t, rfl⟩ := r
    cases (show T = "str" from ty)
    exact ⟨typeIs_str s z t, fun _ e => nomatch e⟩
  | int i =>
    obtain ⟨t, rfl⟩ := r
    cases (show T = "int" from ty)
    exact ⟨typeIs_int s i t, fun _ e => nomatch e⟩
  | ref p =>
    cases r
    rcases ty with ⟨rfl, xs, hq⟩ | ⟨rfl, xs, hq⟩ | ⟨rfl, hk⟩ | ⟨rfl, S, n, hk⟩
    · obtain ⟨its, _, pl, _⟩ := I.list hq
      refine ⟨pl.isList.typeIs, fun a e => ?_⟩
      cases e
      obtain ⟨o, n, e, c, hd, _⟩ := pl
      exact ⟨o, e, hd⟩
    · obtain ⟨o, e, hc, hd⟩ : ∃ o, s.heap.get? p = some o ∧ o.cls = .type "tuple" ∧ o.dict = none := by
        rcases hq with hq | ⟨o, _, _, hk, hc, hd, _⟩
        · obtain ⟨_, its, n, _, e⟩ := hq.ok I.hok
          exact ⟨_, e, rfl, rfl⟩
        · exact ⟨o, I.kIn p o hk, hc, hd⟩
      refine ⟨⟨o, e, hc⟩, fun a e2 => ?_⟩
      cases e2
      exact ⟨o, e, hd⟩
    · have z : ∃ o, s.heap.get? p = some o ∧ o.ExactDict := by
        rcases hk with ⟨kvs, hk⟩ | ⟨kvs, hk⟩
        · obtain ⟨_, _, _, _, o, _, _, e, ex, _⟩ := I.hok p _ hk
          exact ⟨o, e, ex⟩
        · obtain ⟨_, _, _, _, o, _, _, e, ex, _⟩ := I.hok p _ hk
          exact ⟨o, e, ex⟩
      obtain ⟨o, e, ex⟩ := z
      refine ⟨⟨o, e, ex.1⟩, fun a e2 => ?_⟩
      cases e2
      exact ⟨o, e, ex.2.1⟩
    · obtain ⟨o, _, _, _, e, ex, _⟩ := I.hok p _ hk
      refine ⟨⟨o, e, ex.1⟩, fun a e2 => ?_⟩
      cases e2
      exact ⟨o, e, ex.2.1⟩
  | _ => exact False.elim ty
def tBM0 (K : PySem.W.Frag) (T : String) (r : V → List V → Hp → VK → Prop) (to : TE) : TE := fun σ H Q => to σ H fun x H1 => tyV K T x H1 ∧ r x [] H1 Q
def tBM (K : PySem.W.Frag) (T : String) (r : V → List V → Hp → VK → Prop) (to : TE) (t : TA) : TE := fun σ H Q => to σ H fun x H1 => tyV K T x H1 ∧ t σ H1 fun xs H2 => r x xs H2 Q
variable {o e : Expr} {es : List Expr} {to : TE} {t : TA} {name : Str} {apos cpos : Pos} {T id : String} {r : V → List V → Hp → VK → Prop}
theorem pe_bm0 (pa : PlainAttrs T) (slot : Slot T name id) (hty : typeOf (.builtin id) = pure (.type "method_descriptor")) (hm : MtR X id r) (ho : PE X o to)
    (hbase : attributeBase o name X.env (eval o X.env) = eval o X.env := by rfl) (hline : (apos.endLine == cpos.line) = true := by rfl) : PE X (.Call (.Attribute o name apos) [] [] cpos) (tBM0 X.K T r to) := by
  intro pins s σ H Q I h
  refine wpAny_Call_method0_late hbase hline (thn (ho pins s σ H _ I h) fun v s1 hx9 => ?_)
  obtain ⟨x, H1, I1, r1, ty, q1⟩ := hx9
  obtain ⟨h1, h2⟩ := tyV_is I1 r1 ty
  exact ⟨T, id, pa, slot, hty, h1, h2, Calls.callWith_builtin rfl (PySem.evalArgs_none (hm pins s1 σ H1 x [] v [] Q I1 r1 .nil q1))⟩
theorem pe_bm (pa : PlainAttrs T) (slot : Slot T name id) (hty : typeOf (.builtin id) = pure (.type "method_descriptor")) (hm : MtR X id r) (ho : PE X o to) (ha : PA X (e :: es) t)
    (hbase : attributeBase o name X.env (eval o X.env) = eval o X.env := by rfl)
    (hfew : ((backTo cpos (starEach (e :: es) X.env)).all (fun x => !x.1) && (backToKw cpos (keywordEach [] X.env)).all (fun x => x.1.isSome)
      && decide ((e :: es).length + ([] : List Keyword).length + (if ([] : List Keyword).isEmpty then 0 else 1) < 30)) = true := by rfl)
    (hline : (apos.endLine == cpos.line) = true := by rfl) (hs : starEach (e :: es) X.env = (false, eval e X.env) :: starEach es X.env := by rfl) (hplain : (backTo cpos (starEach es X.env)).any (·.1) = false := by rfl) :
    PE X (.Call (.Attribute o name apos) (e :: es) [] cpos) (tBM X.K T r to t) := by
  intro pins s σ H Q I h
  refine wpAny_Call_method_late hbase hfew hline rfl (thn (ho pins s σ H _ I h) fun v s1 hx9 => ?_)
  obtain ⟨x, H1, I1, r1, ty, q1⟩ := hx9
  obtain ⟨h1, h2⟩ := tyV_is I1 r1 ty
  refine ⟨T, id, pa, slot, hty, h1, h2, ?_⟩
  have hA := ha cpos pins s1 σ H1 _ I1 q1
  rw [hs] at hA ⊢
  refine Calls.callWith_builtin (by show (false || (backTo cpos (starEach es X.env)).any (·.1)) = false; rw [hplain] <;> rfl) (Calls.evalArgs_plain ?_)
  refine thn hA fun us s2 hx9 => ?_
  obtain ⟨vs, H2, I2, r2, q2⟩ := hx9
  exact hm pins s2 σ H2 x vs v us Q I2 r1 r2 q2
/- xs.append(e), list.index on a module's tuple .. are MtR facts of 06m -/
end
end L2

namespace L2
open PySem PySem.Spec PyProof.Rows

def MtM (X : Cx) (id : String) (r : V → List V → Hp → VK → Prop) : Prop :=
  ∀ (pins : List (Addr × Obj)) (s : Shared) (σ : St) (H : Hp) (x : V) (xs : List V) (v : Value) (us : List Value) (Q : VK), Inv X pins σ H s → RelV x v → Vals xs us → r x xs H Q →
    wpAny (model X.prog X.w) X.A (call (.builtin id) (v :: us)) (EP X pins σ Q) X.xe s

theorem Vals.one {x : V} {us : List Value} (r : Vals [x] us) : ∃ u, us = [u] ∧ RelV x u := vals1 r
theorem Vals.two {x y : V} {us : List Value} (r : Vals [x, y] us) : ∃ u v, us = [u, v] ∧ RelV x u ∧ RelV y v := vals2 r
theorem Vals.zero : ∀ {us : List Value}, Vals [] us → us = []
  | _, .nil => rfl
theorem Vals.dropLast {xs : List V} {us : List Value} (h : Vals xs us) : Vals xs.dropLast us.dropLast := by
  induction h with
  | nil => exact .nil
  | cons r t ih =>
    cases t with
    | nil => exact .nil
    | cons q t' => exact .cons r ih
theorem Vals.eraseIdx : ∀ {xs : List V} {us : List Value} (i : Nat), Vals xs us → Vals (xs.eraseIdx i) (us.eraseIdx i)
  | _, _, _, .nil => .nil
  | _, _, 0, .cons _ t => t
  | _, _, i + 1, .cons r t => .cons r (Vals.eraseIdx i t)
theorem Vals.rep {xs : List V} {us : List Value} (h : Vals xs us) : ∀ k : Nat, Vals (List.replicate k xs).flatten (List.replicate k us).flatten
  | 0 => .nil
  | k + 1 => by
    rw [List.replicate_succ, List.replicate_succ, List.flatten_cons, List.flatten_cons]
    exact Vals.append h (Vals.rep h k)
theorem foldl_rep (its : List Value) : ∀ (k : Nat) (acc : List Value),
    List.foldl (fun x1 x2 => x1 ++ x2) acc.toArray (List.replicate k its.toArray) = (acc ++ (List.replicate k its).flatten).toArray
  | 0, acc => by simp
  | k + 1, acc => by
    have e : acc.toArray ++ its.toArray = (acc ++ its).toArray := by simp
    have e2 : (acc ++ its) ++ (List.replicate k its).flatten = acc ++ (List.replicate (k + 1) its).flatten := by
      rw [List.replicate_succ, List.flatten_cons, List.append_assoc]
    rw [← e2, ← foldl_rep its k (acc ++ its), ← e, List.replicate_succ, List.foldl_cons]

section
variable {X : Cx} {pins : List (Addr × Obj)} {σ : St} {H : Hp} {s : Shared} {l b : Addr} {xs ys zs : List V}

theorem Inv.lset {its its' : List Value} {n : Nat} {f : Array Value → Array Value} {t' : Nat} (I : Inv X pins σ H s) (hH : H l = some (.lst xs))
    (e : s.heap.get? l = some { cls := .type "list", data := .seq its.toArray n }) (hf : f its.toArray = its'.toArray) (hv : Vals ys its') (hz : ys.length ≤ sizeLine) :
    Inv X pins σ (upd H l (.lst ys)) { s with heap := s.heap.update l (Obj.mapSeq f), toks := t' } := by
  have q := PySem.IsL.update e f
  rw [hf] at q
  refine I.write (x := l) (e := l) (by rw [hH]; exact trivial) (.inl rfl) (fun b' u hb hu => (Heap.get?_update_other s.heap (Obj.mapSeq f) (Ne.symm hb)).trans hu) ⟨_, q⟩ ?_
  exact ⟨hz, its', _, hv, q⟩
theorem Inv.lnew {its : List Value} {t' : Nat} (I : Inv X pins σ H s) (hv : Vals ys its) (hz : ys.length ≤ sizeLine) :
    Inv X pins σ (upd H s.heap.objs.size (.lst ys)) { s with heap := s.heap.push { cls := .type "list", data := .seq its.toArray }, toks := t' } :=
  I.laid (fun _ _ q => Heap.get?_push_of_some _ q) (Nat.le_refl _) ⟨hz, its, 0, hv, Heap.get?_push_size _ rfl⟩
theorem Inv.fresh (I : Inv X pins σ H s) : H s.heap.objs.size = none := I.hok.fresh (Nat.le_refl _)
theorem Inv.lstM (I : Inv X pins σ H s) (hH : H l = some (.lst xs)) : xs.length ≤ sizeLine ∧ ∃ (its : List Value) (n : Nat), Vals xs its ∧ xs.length = its.length ∧ s.heap.get? l = some { cls := .type "list", data := .seq its.toArray n } := by
  obtain ⟨z, its, n, r, e⟩ := I.hok l _ hH
  exact ⟨z, its, n, r, r.length, e⟩

theorem notLongL {n : Nat} (h : n ≤ sizeLine) : Builtin.List.listTooLong n = false := by
  unfold Builtin.List.listTooLong
  exact decide_eq_false (by omega)
end

section
variable {X : Cx}

def rAppend : V → List V → Hp → VK → Prop := fun x vs H Q => ∃ l xs y, x = .ref l ∧ vs = [y] ∧ H l = some (.lst xs) ∧ xs.length < sizeLine ∧ Q .non (upd H l (.lst (xs ++ [y])))
theorem mt_append : MtM X "list.append" rAppend := by
  intro pins s σ H x vs v us Q I rx rv h
  obtain ⟨l, xs, y, rfl, rfl, hH, hz, q⟩ := h
  cases rx
  obtain ⟨u, rfl, ru⟩ := rv.one
  obtain ⟨z, its, n, r, hl, e⟩ := I.lstM hH
  refine call_meets F.slot_list_append ⟨_, e, rfl⟩ F.entry_list_append (F.args_list_append_2 _ _) (PySem.list_append l its.toArray n u (by rw [List.size_toArray]; omega)) ⟨e, ?_⟩
  refine ⟨.non, _, I.lset (its' := its ++ [u]) hH e (by simp) (r.append (.cons ru .nil)) ?_, rfl, q⟩
  rw [List.length_append, List.length_singleton]
  omega

def rCat : R2 := fun x y H Q => ∃ l b xs zs, x = .ref l ∧ y = .ref b ∧ H l = some (.lst xs) ∧ H b = some (.lst zs) ∧ xs.length + zs.length ≤ sizeLine ∧ ∀ p, H p = none → Q (.ref p) (upd H p (.lst (xs ++ zs)))
theorem op_cat : OpR X (binaryOp .Add) rCat := by
  intro pins s σ H x y v u Q I rx ry h
  obtain ⟨l, b, xs, zs, rfl, rfl, hH, hB, hz, q⟩ := h
  cases rx
  cases ry
  obtain ⟨z, its, n, r, hl, e⟩ := I.lstM hH
  obtain ⟨z2, its2, n2, r2, hl2, e2⟩ := I.lstM hB
  refine PySem.P.add_list e e2 ?_ (by rw [List.size_toArray, List.size_toArray]; omega)
  have ea : its.toArray ++ its2.toArray = (its ++ its2).toArray := by simp
  rw [ea]
  exact ⟨.ref _, _, I.lnew (t' := s.toks) (r.append r2) (by rw [List.length_append]; omega), rfl, q _ I.fresh⟩
def rRep : R2 := fun x y H Q => ∃ l k xs, x = .ref l ∧ y = .int k ∧ H l = some (.lst xs) ∧ -(2 ^ 63) ≤ k ∧ k < 2 ^ 63 ∧ xs.length * k.toNat ≤ sizeLine ∧
  ∀ p, H p = none → Q (.ref p) (upd H p (.lst (List.replicate k.toNat xs).flatten))
theorem len_rep {α : Type} (xs : List α) (k : Nat) : (List.replicate k xs).flatten.length = k * xs.length := by
  induction k with
  | zero => simp
  | succ k ih => rw [List.replicate_succ, List.flatten_cons, List.length_append, ih, Nat.succ_mul, Nat.add_comm]
theorem op_rep : OpR X (binaryOp .Mult) rRep := by
  intro pins s σ H x y v u Q I rx ry h
  obtain ⟨l, k, xs, rfl, rfl, hH, h1, h2, hz, q⟩ := h
  cases rx
  obtain ⟨t, rfl⟩ := ry
  obtain ⟨z, its, n, r, hl, e⟩ := I.lstM hH
  have hlen : its.toArray.size * k.toNat ≤ sizeLine := by rw [List.size_toArray, ← hl]; exact hz
  have hcap : ¬ its.toArray.size * k.toNat > (2 ^ 63 - 1) / 8 := by
    have : (sizeLine : Nat) ≤ (2 ^ 63 - 1) / 8 := by decide
    omega
  have hfit : ¬ (!Builtin.List.listFitsIndex k) = true := by
    rw [fitsIndex_both h1 h2]
    exact Bool.false_ne_true
  have hlong : ¬ Builtin.List.listTooLong (its.toArray.size * k.toNat) = true := by
    rw [notLongL hlen]
    exact Bool.false_ne_true
  have hnew : List.foldl (fun x1 x2 => x1 ++ x2) #[] (List.replicate (if its.toArray.isEmpty = true then 0 else k.toNat) its.toArray) = (List.replicate k.toNat its).flatten.toArray := by
    have f0 : ∀ m : Nat, List.foldl (fun x1 x2 => x1 ++ x2) #[] (List.replicate m its.toArray) = (List.replicate m its).flatten.toArray := fun m => by
      have := foldl_rep its m []
      rw [List.nil_append] at this
      exact this
    rw [f0]
    cases its with
    | nil => simp
    | cons a r' => rw [if_neg (by simp)]
  refine wpAny_binaryOp_repeat_ref (T := "list") (U := "int") (by decide) ⟨_, e, rfl⟩ (fun s' => typeIs_int s' k t) noFill_list_mul F.fills_int_mul F.slot_int_rmul repeat_list F.slot_int_index.lookup
    (call_meets F.slot_int_rmul (typeIs_int s k t) F.entry_int_rmul (F.args_int_rmul_2 _ _) (int___rmul___int_list k t l its.toArray n)
      ⟨e, rfl, ⟨_, e, rfl⟩, call_meets F.slot_list_mul ⟨_, e, rfl⟩ F.entry_list_mul (F.args_list_mul_2 _ _) (AutoListH.list___mul___list_int_3 l its.toArray n k t hfit hcap hlong) ⟨e, ?_⟩⟩)
  rw [hnew]
  exact ⟨.ref _, _, I.lnew (t' := s.toks) (r.rep k.toNat) (by rw [len_rep, Nat.mul_comm]; exact hz), rfl, q _ I.fresh⟩

end

section
variable {prog : Program} {w : World} {A : Around} {E : Value → Shared → Prop} {s : Shared}
end

section
variable {X : Cx}
end
end L2

namespace Att
open PySem PySem.W PySem.Calls PyProof.Rows

theorem ints_of_wellAll {P : Params} {h : Heap} : ∀ (ns : List Int) (vs : List Value), WellAll P h vs (ns.map WData.int) → IntsAre vs ns := by
  intro ns
  induction ns with
  | nil =>
    intro vs w
    rw [List.map_nil] at w
    cases w
    exact .nil
  | cons n ns ih =>
    intro vs w
    rw [List.map_cons] at w
    cases w with
    | cons a b =>
      cases a
      exact .cons _ _ (ih _ b)

theorem script_of {l : OpenLaw} {n : Nat} (hn : l.most = some n) {P : Params} {h : Heap} {args : List WData} {vals : List Value}
    (hpre : l.row.toRowW.claim.pre args = true) (hwl : WellAll P h vals args) :
    ∃ a vs ns, vals = [Value.ref a] ∧ args = [WData.list (ns.map WData.int)] ∧ h.get? a = some { cls := .type "list", data := .seq vs.toArray } ∧ IntsAre vs ns ∧ ns.length ≤ n := by
  have hsh : WShape.hasAll [] args [.list .int] = true := (pre_splitW hpre).1
  have hc : l.pre.holds [] { args := args } = true := (pre_splitW hpre).2
  obtain ⟨d, r, rfl, h1, h2⟩ := hasAllW_cons hsh
  obtain rfl := hasAllW_nil h2
  obtain ⟨xs, rfl, h3⟩ := hasW_list h1
  obtain ⟨ns, rfl⟩ := items_int h3
  have hlen : ns.length ≤ n := by
    unfold OpenLaw.pre at hc
    have h4 : (WTm.not (.lt (.lit (.int (n : Int))) (.len (.arg 0)))).holds [] { args := [.list (ns.map .int)] } = true := by
      have h4 := (holds_andW hc).1
      rw [hn] at h4
      exact h4
    have h5 := condW_of h4 (w_not (w_lt w_lit (w_len_list (w_arg rfl))))
    rw [List.length_map] at h5
    refine Nat.le_of_not_lt fun q => ?_
    have q' : (n : Int) < ((ns.length : Nat) : Int) := by omega
    first
      | (rw [decide_eq_true q'] at h5; exact absurd h5 (by decide))
      | (simp at h5; omega)
  cases hwl with
  | cons w1 w2 =>
    cases w2
    cases w1 with
    | list ho hall => exact ⟨_, _, ns, rfl, rfl, ho, ints_of_wellAll ns _ hall, hlen⟩

theorem post_true (l : OpenLaw) (args : List WData) : l.row.toRowW.claim.post args (.bool true) args = true :=
  postW_of (r := l.row.toRowW) (X := (true == true))
    (show WShape.has [] (.bool true) .bool = true by first | rfl | decide | simp [WShape.has, WShape.arms, WShape.armsAll])
    (show (WTm.eq .res (.lit (.bool true))).value [] { args := args, res := some (.bool true), after := args } = some (.bool (true == true)) from w_eq_bool (w_res rfl) w_lit) rfl

theorem attach_call {l : OpenLaw} {n : Nat} {q : Program} {loose : List Str} {XP : (Str → Option Value) → Heap → Prop} {YP : World → Heap → Prop} {d : DefRec}
    (hn : l.most = some n) (hdf : d.params.defaults = [])
    (call : ∀ (w : World) (s₀ s₁ : Shared) (mg mb : Str → Option Value) (fa : Addr) (o : Obj) (pm cd doc : Value) (a : Addr) (vs : List Value) (ns : List Int),
      Ground q loose [] XP w s₀ mg mb s₁.heap → YP w s₁.heap →
      s₁.heap.get? fa = some o → o.data = .func (docDef d.name d.params d.body d.scope pm cd doc) → s₁.heap.CodeRec cd d.name → mg d.name = some (.ref fa) →
      s₁.heap.get? a = some { cls := .type "list", data := .seq vs.toArray } → IntsAre vs ns → ns.length ≤ n → s₁.gens = #[] →
      codeAny (model l.prog w) callerA (.call (.ref fa) ⟨[.ref a], []⟩) (fun r s' => r = .ok (.ret (.bool true)) ∧ OldK s₁.heap s'.heap ∧ s'.os = s₁.os ∧ AllBare s'.gens) s₁) :
    WalkO q loose XP YP l.row.toRowW d [] (fun f vs => PySem.call f vs) := by
  intro w s₀ s₁ mg mb G Y fa o pm cd doc dV kV ho hd hcd hD hmg hg args vals as hpre hlay hrd hwl hlo
  obtain rfl : dV = .none := Dflts.none hD hdf
  obtain rfl : kV = .none := Dflts.noKw hD
  obtain ⟨a, vs, ns, rfl, rfl, hobj, hints, hlen⟩ := script_of hn hpre hwl
  refine enter_call (codeAny_mono (call w s₀ s₁ mg mb fa o pm cd doc a vs ns G Y ho (fd_plain hd) hcd hmg hobj hints hlen hg) fun r s' hq => ?_)
  obtain ⟨rfl, h2, h3, h4⟩ := hq
  exact ⟨.inl ⟨.bool true, .bool true, [], rfl, fun _ => rfl, .bool true, post_true l _, fun _ => ⟨List.Pairwise.nil, fun _ hm => (nomatch hm)⟩⟩, h2, h3, h4⟩

section
variable {prog : Program} {w : World} {A : Around} {E : Value → Shared → Prop} {s : Shared} {K : Frag}

end
end Att

namespace L2
open PySem PySem.Spec PyProof.Rows

theorem vals_ints : ∀ {vs : List Value} {ns : List Int}, IntsAre vs ns → Vals (ns.map V.int) vs
  := by
  intro vs ns h
  induction h with
  | nil => exact .nil
  | cons n t h ih => exact .cons ⟨t, rfl⟩ ih

def Only (H : Hp) : Prop := ∀ b, H b = none ∨ ∃ o xs, H b = some (.frz o (.lst xs))

theorem law_call {P : Program} {w : World} {K : PySem.W.Frag} {mg mb : Str → Option Value} {CX : CXT} {k : Nat} {fa a : Addr} {fd : FuncData} {x : Str} {sp : Sp} {s₁ : Shared} {vs : List Value} {ns : List Int}
    (KX : K.In s₁.heap) (hns : s₁.heap.Ns mainGlobals mg) (hb : s₁.heap.Ns builtinsNs mb) (hbb : ∀ x : Str, x ≠ "__name__" → mb x = bootBuiltins x) (hlim : s₁.heap.NoLimit) (hmod : ∃ mm, s₁.heap.Ns sysModules mm) (hg : s₁.gens = #[])
    (ha : s₁.heap.get? a = some { cls := .type "list", data := .seq vs.toArray }) (hi : IntsAre vs ns) (hl : ns.length ≤ sizeLine) (hr : Room k callerA)
    (F : ∀ base : Heap, K.In base → base.Ns mainGlobals mg → FnOk P w K mg base CX k fa fd [x] sp) (hbind : ∀ (s : Shared) (u : Value), BindsTo s fd ⟨[u], []⟩ [(x, u)])
    (hsp : ∀ H : Hp, Only H → SqL K H a (ns.map V.int) → sp [.ref a] H (fun v _ => v = .bl true) fun _ _ _ => False)
    (hCX : ∀ H e s', CX [] H s₁ (fun _ _ _ => False) e s' → False) :
    codeAny (model P w) callerA (.call (.ref fa) ⟨[.ref a], []⟩) (fun r s' => r = .ok (.ret (.bool true)) ∧ OldK s₁.heap s'.heap ∧ s'.os = s₁.os ∧ AllBare s'.gens) s₁ := by
  have rv := vals_ints hi
  have lenV := hi.length
  -- from an abstract heap in which nothing but the script may be tracked
  have core : ∀ H : Hp, Only H → SqL K H a (ns.map V.int) → HOk P w H s₁.heap → (∀ b, H b ≠ none → b = a) → (H a ≠ none → K.lookup a = none) →
      codeAny (model P w) callerA (.call (.ref fa) ⟨[.ref a], []⟩) (fun r s' => r = .ok (.ret (.bool true)) ∧ OldK s₁.heap s'.heap ∧ s'.os = s₁.os ∧ AllBare s'.gens) s₁ := by
    intro H hO hS hok hA hK
    have base_of : ∀ {b : Addr} {o : Obj}, s₁.heap.get? b = some o → H b = none → (hidT s₁.heap H).get? b = some o := fun e n => hidT_get e n
    have noA : ∀ {b : Addr} {o : Obj} {es : Array DictEntry} {ep : Nat}, s₁.heap.get? b = some o → o.data = .dict es ep → H b = none := fun {b o es ep} e d => by
      cases q : H b with
      | none => rfl
      | some u =>
        have e' : b = a := hA b (by rw [q]; simp)
        subst e'
        rw [ha] at e; cases e
        have d' : Data.seq vs.toArray _ = Data.dict es ep := d
        cases d'
    have nsK : ∀ {b : Addr} {m : Str → Option Value}, s₁.heap.Ns b m → (hidT s₁.heap H).Ns b m := fun {b m} ⟨o, es, ep, e, d, r⟩ => ⟨o, es, ep, base_of e (noA e d), d, r⟩
    have hKb : K.In (hidT s₁.heap H) := fun b o e => base_of (KX b o e) (by
      cases q : H b with
      | none => rfl
      | some u =>
        have e' : b = a := hA b (by rw [q]; simp)
        subst e'
        rw [hK (by rw [q]; simp)] at e; cases e)
    have hM : Mod K mg (hidT s₁.heap H) := ⟨hKb, nsK hns, ⟨mb, nsK hb, hbb⟩, let ⟨mc, h1, h2⟩ := hlim; ⟨mc, nsK h1, h2⟩, let ⟨mm, h1⟩ := hmod; ⟨mm, nsK h1⟩⟩
    have e0 : Env0 P w K mg (hidT s₁.heap H) callerA [] s₁ H := ⟨rfl, hM, fun b o e => of_hidT e, Nat.le_of_eq (hidT_size _ _), trivial, fun b hb => absurd (show b ∈ ([] : List Addr) from hb) (by simp), hok, .of_eq hg⟩
    refine codeAny_mono ((F _ hKb (nsK hns)).run callerA [] s₁ H ⟨[.ref a], []⟩ [.ref a] [.ref a] _ _ hr e0 (hbind s₁ (.ref a)) (.cons rfl .nil) (hsp H hO hS)) fun r s' h => ?_
    cases r with
    | error e => exact (hCX H e s' h).elim
    | ok fl =>
      cases fl with
      | next => exact False.elim h
      | brk => exact False.elim h
      | cont => exact False.elim h
      | ret u =>
        obtain ⟨v, H', os, bare, un, hok', r', q⟩ := h
        have q' : v = .bl true := q
        subst q'
        obtain rfl : u = Value.bool true := r'
        refine ⟨rfl, OldK.of_keep fun b o e => ?_, os, bare⟩
        cases q : H b with
        | none => exact un.keep b o e q (by intro z; exact absurd (show b ∈ ([] : List Addr) from z) (by simp)) (by simp)
        | some u =>
          rcases hO b with z | ⟨ob, xs, z⟩
          · rw [q] at z; cases z
          · have z2 := un.frzs b ob _ z
            obtain ⟨e1, _⟩ := hok b _ z
            obtain ⟨e2, _⟩ := hok' b _ z2
            rw [e] at e1; cases e1
            exact e2
  cases hk : K.lookup a with
  | some o =>
    -- the script is one of the module's own objects
    have e := KX a o hk
    rw [ha] at e
    cases e
    refine core (fun _ => none) (fun _ => .inl rfl) (.inr ⟨_, vs.toArray, _, hk, rfl, rfl, rfl, by rw [List.size_toArray, lenV]; exact hl, by simpa using rv⟩) (fun b u z => by have z' : (none : Option HO) = some u := z; cases z') (fun b z => absurd rfl z) fun z => absurd rfl z
  | none =>
    refine core (fun b => if b = a then some (.frz { cls := .type "list", data := .seq vs.toArray } (.lst (ns.map V.int))) else none) (fun b => ?_) (.inl (.inr ⟨{ cls := .type "list", data := .seq vs.toArray }, if_pos rfl⟩)) (fun b u z => ?_) (fun b z => ?_) fun _ => hk
    · by_cases hb : b = a
      · exact .inr ⟨_, _, if_pos hb⟩
      · exact .inl (if_neg hb)
    · by_cases hb : b = a
      · have z' := (if_pos hb).symm.trans z
        cases z'
        subst hb
        exact ⟨ha, by rw [List.length_map]; exact hl, vs, _, rv, ha⟩
      · have z' := (if_neg hb).symm.trans z
        cases z'
    · by_cases hb : b = a
      · exact hb
      · exact absurd (if_neg hb) z
end L2

namespace L2
open PySem PySem.Spec PyProof.Rows

theorem walk_of {l : PySem.W.OpenLaw} {n k : Nat} {q : Program} {loose : List Str} {XP : (Str → Option Value) → Heap → Prop} {YP : World → Heap → Prop} {d : DefRec} {K : Params → PySem.W.Frag} {CX : World → CXT} {sp : World → Sp} {x : Str}
    (hn : l.most = some n) (hn2 : n ≤ sizeLine) (hdf : d.params.defaults = []) (hr : Room k callerA) (hq : importsNone q = true)
    (hY : ∀ (w : World) (h : Heap), YP w h → (K w.params).In h)
    (F : ∀ (w : World) (mg : Str → Option Value) (fa : Addr) (h : Heap), (K w.params).In h → h.Ns mainGlobals mg → mg d.name = some (.ref fa) →
      ∃ fd : FuncData, (∀ (s : Shared) (u : Value), BindsTo s fd ⟨[u], []⟩ [(x, u)]) ∧
        ∀ base : Heap, (K w.params).In base → base.Ns mainGlobals mg → FnOk l.prog w (K w.params) mg base (CX w) k fa fd [x] (sp w))
    (hsp : ∀ (w : World) (H : Hp) (a : Addr) (ns : List Int), ns.length ≤ n → Only H → SqL (K w.params) H a (ns.map V.int) → sp w [.ref a] H (fun v _ => v = .bl true) fun _ _ _ => False)
    (hCX : ∀ (w : World) (H : Hp) (s : Shared) (e : Value) (s' : Shared), CX w [] H s (fun _ _ _ => False) e s' → False) :
    PySem.W.WalkO q loose XP YP l.row.toRowW d [] (fun f vs => PySem.call f vs) := by
  refine Att.attach_call hn hdf fun w s₀ s₁ mg mb fa o pm cd doc a vs ns G Y ho hd hcd hmg hobj hints hlen hg => ?_
  have KX := hY w _ Y
  obtain ⟨fd, hb, hF⟩ := F w mg fa _ KX G.T.g hmg
  exact law_call KX G.T.g G.T.b G.T.builtins G.T.nolimit (let ⟨mm, h1, _⟩ := (G.T.seer hq).mods; ⟨mm, h1⟩) hg hobj hints (Nat.le_trans hlen hn2) hr hF hb (fun H hO hS => hsp w H a ns hlen hO hS) fun H e s' => hCX w H s₁ e s'
end L2

namespace L2
open PySem PySem.Spec PyProof.Rows

def defArgs (s : Stmt) : Arguments := match s with
  | .FunctionDef _ a _ _ _ _ _ _ _ _ => a
  | _ => { posonlyargs := [], args := [], vararg := none, kwonlyargs := [], kw_defaults := [], kwarg := none, defaults := [] }
def defBody (s : Stmt) : List Stmt := match s with
  | .FunctionDef _ _ b _ _ _ _ _ _ _ => b
  | _ => []
def defScope (s : Stmt) : Scope := match s with
  | .FunctionDef _ _ _ _ _ _ sc _ _ _ => sc
  | _ => { kind := .function, names := [], isGenerator := false, isCoroutine := false }

abbrev CX0 : CXT := fun _ _ _ _ _ _ => False
abbrev E0 : XK := fun _ _ _ => False
theorem pass0 {X : Cx} : Passes CX0 X E0 := fun _ _ _ _ _ _ _ h => h.elim

structure Fun (K : PySem.W.Frag) (x qual : Str) (st : Stmt) (f : Addr) (fd : FuncData) : Prop where
  ex : ∃ (oc : Value) (od : Option Addr) (kV doc pm : Value) (an : Option Addr) (cdv ct : Value) (osl : Array (Option Value)),
    fd = PySem.W.fnOf x qual (defArgs st) (defBody st) (defScope st) .none kV doc pm an cdv ct ∧ K.lookup f = some ⟨oc, od, .func fd, osl⟩ ∧ PySem.W.codeIn K cdv qual = true
  kp : PySem.W.keepIn K (.ref f) = true
section
variable {P : Program} {w : World} {K : PySem.W.Frag} {mg : Str → Option Value} {base : Heap}
theorem Fun.ok {x qual : Str} {st : Stmt} {f : Addr} {fd : FuncData} {N ps : List Str} {k : Nat} {sp : Sp} (F : Fun K x qual st f fd) (S : FnScope N ps (defScope st)) (len : ∀ vs H Q E, sp vs H Q E → vs.length = ps.length)
    (hbody : ∀ (cdv : Value) (A : Around) (outer : List Env) (s : Shared) (H : Hp) (vs : List V) (Q : VK) (E : XK), Room k (A.deeper (envOfC qual (defScope st) s.heap.objs.size f cdv)) → sp vs H Q E →
      ∃ t, PSs (cxOf CX0 P w K mg base N qual (defScope st) f cdv A outer s H E).nox (defBody st) t ∧ t { nx := fun _ H' => Q .non H', rt := Q } (start N vs) H) : FnOk P w K mg base CX0 (k + 1) f fd ps sp := by
  obtain ⟨oc, od, kV, doc, pm, an, cdv, ct, osl, rfl, lk, hcd⟩ := F.ex
  refine fn_of lk hcd S len fun A outer s H vs Q E hr hsp => ?_
  obtain ⟨t, h, q⟩ := hbody cdv A outer s H vs Q E hr hsp
  exact ⟨t, h.nox, q⟩
theorem Fun.binds {x qual : Str} {st : Stmt} {f : Addr} {fd : FuncData} {ps : List Str} (F : Fun K x qual st f fd)
    (h : ∀ (kV doc pm : Value) (an : Option Addr) (cdv ct : Value) (us : List Value), us.length = ps.length → bindArgs (PySem.W.fnOf x qual (defArgs st) (defBody st) (defScope st) .none kV doc pm an cdv ct) ⟨us, []⟩ = pure (ps.zip us)) : Binds K fd ps [] := by
  obtain ⟨oc, od, kV, doc, pm, an, cdv, ct, osl, rfl, lk, hcd⟩ := F.ex
  exact .all (h kV doc pm an cdv ct)
theorem fun_mk {x qual : Str} {st : Stmt} {f : Addr} {oc : Value} {od an : Option Addr} {osl : Array (Option Value)} {kV doc pm cdv ct : Value} (l : K.lookup f = some ⟨oc, od, .func (PySem.W.fnOf x qual (defArgs st) (defBody st) (defScope st) .none kV doc pm an cdv ct), osl⟩)
    (c : PySem.W.codeIn K cdv qual = true) (k : PySem.W.keepIn K (.ref f) = true) : Fun K x qual st f (PySem.W.fnOf x qual (defArgs st) (defBody st) (defScope st) .none kV doc pm an cdv ct) := ⟨⟨oc, od, kV, doc, pm, an, cdv, ct, osl, rfl, l, c⟩, k⟩
end
section
variable {X : Cx}
theorem pv (i : Nat) {x : Str} {pos : Pos} (hN : X.N[i]? = some x := by rfl) (hv : Vis X.env.scope x := by first | exact Or.inl rfl | exact Or.inr (Or.inl rfl) | exact Or.inr (Or.inr rfl)) (hd : (x == ("__debug__" : Str)) = false := by decide)
    (hcd : (x == ("__classdict__" : Str)) = false := by decide) : PE X (.Name x pos) (tVar i) := pe_var hN hv hd hcd
end

theorem iteF {A B : Prop} (h : B) : if false = true then A else B := by
  rw [if_neg Bool.false_ne_true]
  exact h
theorem iteT {A B : Prop} (h : A) : if true = true then A else B := by
  rw [if_pos rfl]
  exact h
theorem ite2 {c A B : Prop} [Decidable c] (h1 : c → A) (h2 : ¬ c → B) : if c then A else B := by
  by_cases h : c
  · rw [if_pos h]
    exact h1 h
  · rw [if_neg h]
    exact h2 h
def Same (H H' : Hp) : Prop := ∀ b o, H b = some o → H' b = some o
theorem Same.refl (H : Hp) : Same H H := fun _ _ h => h
theorem Same.trans {H H1 H2 : Hp} (a : Same H H1) (b : Same H1 H2) : Same H H2 := fun c o h => b c o (a c o h)
theorem Same.free {H H' : Hp} (e : Same H H') {l : Addr} (h : H' l = Option.none) : H l = Option.none := by
  cases q : H l with
  | none => rfl
  | some o =>
    rw [e l o q] at h
    cases h
theorem Same.seq {K : PySem.W.Frag} {H H' : Hp} {a : Addr} {xs : List V} (e : Same H H') (h : SqL K H a xs) : SqL K H' a xs := by
  rcases h with (h | ⟨o, h⟩) | h
  · exact .inl (.inl (e _ _ h))
  · exact .inl (.inr ⟨o, e _ _ h⟩)
  · exact .inr h

end L2
set_option Elab.async false
set_option linter.all false
set_option maxRecDepth 100000
namespace L2
open PySem PySem.Spec PyProof.Rows

def clOf (env : Env) : List (Str × NameKind) → List (Str × Addr) → List (Str × Addr)
  | [], acc => acc
  | (n, k) :: r, acc => if k == .free then (match env.cells.lookup n with | some c => clOf env r ((n, c) :: acc) | none => clOf env r acc) else clOf env r acc

theorem clo_loop {env : Env} : ∀ (names : List (Str × NameKind)) (acc : List (Str × Addr)), (∀ y ∈ names, y.2 = .free → ∃ c, env.cells.lookup y.1 = some c) →
    (forIn names acc fun (x : Str × NameKind) (r : List (Str × Addr)) => (match x with
      | (name, kind) => if (kind == NameKind.free) = true then (do let a ← cellOf env name; pure (ForInStep.yield ((name, a) :: r))) else pure (ForInStep.yield r) : Sem (ForInStep (List (Str × Addr))))) = (pure (clOf env names acc) : Sem _)
  | [], acc, _ => rfl
  | (n, k) :: r, acc, h => by
    have ih := fun acc => clo_loop r acc fun y hy => h y (List.mem_cons_of_mem _ hy)
    rw [List.forIn_cons]
    by_cases hk : (k == NameKind.free) = true
    · obtain ⟨c, hc⟩ := h (n, k) List.mem_cons_self (by simpa using hk)
      have e1 : clOf env ((n, k) :: r) acc = clOf env r ((n, c) :: acc) := by
        show (if k == .free then _ else _) = _
        rw [if_pos hk]; simp only at hc; rw [hc]
      simp only at hc
      rw [e1, ← ih]
      simp only [hk, if_true, cellOf, hc]
      rfl
    · have e1 : clOf env ((n, k) :: r) acc = clOf env r acc := by
        show (if k == .free then _ else _) = _
        rw [if_neg hk]
      rw [e1, ← ih]
      simp only [hk, if_false]
      rfl
theorem clo_of {env : Env} {scope : Scope} (h : ∀ y ∈ scope.names, y.2 = .free → ∃ c, env.cells.lookup y.1 = some c) : closureFor scope env = pure (clOf env scope.names []) := by
  unfold closureFor
  have e := clo_loop scope.names [] h
  show (forIn scope.names [] _ >>= _) = _
  exact (congrArg (fun z => z >>= fun r => pure r) e).trans rfl
theorem clOf_mem {env : Env} : ∀ (names : List (Str × NameKind)) (acc : List (Str × Addr)) (n : Str) (c : Addr), (n, c) ∈ clOf env names acc → (n, c) ∈ acc ∨ env.cells.lookup n = some c
  | [], _, _, _, h => .inl h
  | (m, k) :: r, acc, n, c, h => by
    by_cases hk : (k == NameKind.free) = true
    · rw [show clOf env ((m, k) :: r) acc = (match env.cells.lookup m with | some c => clOf env r ((m, c) :: acc) | none => clOf env r acc) from if_pos hk] at h
      cases e : env.cells.lookup m with
      | none => rw [e] at h; exact clOf_mem r acc n c h
      | some d =>
        rw [e] at h
        rcases clOf_mem r _ n c h with q | q
        · rcases List.mem_cons.mp q with q | q
          · cases q; exact .inr e
          · exact .inl q
        · exact .inr q
    · rw [show clOf env ((m, k) :: r) acc = clOf env r acc from if_neg hk] at h
      exact clOf_mem r acc n c h
theorem clOf_has {env : Env} : ∀ (names : List (Str × NameKind)) (acc : List (Str × Addr)) (n : Str), ((∃ c, (n, c) ∈ acc) ∨ ((n, NameKind.free) ∈ names ∧ ∃ c, env.cells.lookup n = some c)) → ∃ c, (n, c) ∈ clOf env names acc
  | [], _, _, h => by
    rcases h with h | ⟨h, _⟩
    · exact h
    · cases h
  | (m, k) :: r, acc, n, h => by
    by_cases hk : (k == NameKind.free) = true
    · rw [show clOf env ((m, k) :: r) acc = (match env.cells.lookup m with | some c => clOf env r ((m, c) :: acc) | none => clOf env r acc) from if_pos hk]
      cases e : env.cells.lookup m with
      | none =>
        refine clOf_has r acc n ?_
        rcases h with h | ⟨h, c, hc⟩
        · exact .inl h
        · rcases List.mem_cons.mp h with h | h
          · cases h; rw [e] at hc; cases hc
          · exact .inr ⟨h, c, hc⟩
      | some d =>
        refine clOf_has r _ n ?_
        rcases h with ⟨c, h⟩ | ⟨h, c, hc⟩
        · exact .inl ⟨c, List.mem_cons_of_mem _ h⟩
        · rcases List.mem_cons.mp h with h | h
          · cases h; exact .inl ⟨d, List.mem_cons_self⟩
          · exact .inr ⟨h, c, hc⟩
    · rw [show clOf env ((m, k) :: r) acc = clOf env r acc from if_neg hk]
      refine clOf_has r acc n ?_
      rcases h with h | ⟨h, c, hc⟩
      · exact .inl h
      · rcases List.mem_cons.mp h with h | h
        · cases h; exact absurd rfl hk
        · exact .inr ⟨h, c, hc⟩
theorem lookup_memS {β : Type} : ∀ {l : List (Str × β)} {a : Str} {b : β}, l.lookup a = some b → (a, b) ∈ l := PySem.mem_of_lookup_some
theorem mem_lookupS {β : Type} : ∀ {l : List (Str × β)} {a : Str} {b : β}, (a, b) ∈ l → ∃ c, l.lookup a = some c
  | (k, v) :: l, a, b, h => by
    rw [List.lookup_cons]
    by_cases e : (a == k) = true
    · rw [e]; exact ⟨v, rfl⟩
    · have e' : (a == k) = false := by simpa using e
      rw [e']
      rcases List.mem_cons.mp h with h | h
      · cases h; simp at e
      · exact mem_lookupS h
theorem lookup_relabel {env : Env} (x : Str) : ∀ (names : List (Str × NameKind)),
    (names.map fun (n, k) => if (k == NameKind.free && env.scope.kind == .function && env.kindOf n == some .cell) then (n, NameKind.cell) else (n, k)).lookup x =
      (names.lookup x).map fun k => if (k == NameKind.free && env.scope.kind == .function && env.kindOf x == some .cell) then NameKind.cell else k
  | [] => rfl
  | (n, k) :: r => by
    have ih := lookup_relabel (env := env) x r
    rw [List.map_cons]
    by_cases e : (x == n) = true
    · have en : x = n := by simpa using e
      subst en
      dsimp only
      by_cases c : (k == NameKind.free && env.scope.kind == .function && env.kindOf x == some .cell) = true
      · rw [if_pos c, List.lookup_cons, List.lookup_cons, e]
        simp only [Option.map_some, c, if_true]
      · rw [if_neg c, List.lookup_cons, List.lookup_cons, e]
        simp only [Option.map_some, c]
        rfl
    · have e' : (x == n) = false := by simpa using e
      dsimp only
      by_cases c : (k == NameKind.free && env.scope.kind == .function && env.kindOf n == some .cell) = true
      · rw [if_pos c, List.lookup_cons, List.lookup_cons, e']; exact ih
      · rw [if_neg c, List.lookup_cons, List.lookup_cons, e']; exact ih

def cxComp (X : Cx) (scope : Scope) (N : List Str) (C : Addr) (s0 : Shared) (H0 : Hp) (fp : List Addr) : Cx where
  prog := X.prog
  w := X.w
  K := X.K
  mg := X.mg
  base := X.base
  A := X.A
  N := N
  s₀ := s0
  H₀ := H0
  env := compEnvC scope (clOf X.env scope.names []) C X.env
  outer := X.stack
  stack := X.stack
  ex := fp
  fn := fun _ => false
  calm := X.calm
  pn := []
  xe := fun _ _ => False
def compCheck (sc scope : Scope) (own : List Str) (frn : List Str) : Bool :=
  scope.kind == .function && scope.names.all (fun y => y.2 != .cell) && scope.names.all (fun y => y.2 != .local || scope.names.lookup y.1 == some .local) &&
  scope.names.all (fun y => y.2 != .free || sc.names.lookup y.1 == some .cell || sc.names.lookup y.1 == some .free) && decide (own ++ frn).Nodup &&
  own.all (fun x => scope.names.lookup x == some .local) && frn.all (fun x => scope.names.lookup x == some .free)
def blk (own : Nat) (fr : List Nat) (σ : St) : St := List.replicate own none ++ fr.map fun j => (σ[j]?).join
structure CompOk (X : Cx) (scope : Scope) (own : List Str) (fr : List Nat) (frn : List Str) : Prop where
  ck : compCheck X.env.scope scope own frn = true
  ix : ∀ (k : Nat) (x : Str), frn[k]? = some x → ∃ j : Nat, fr[k]? = some j ∧ X.N[j]? = some x
  len : fr.length = frn.length
section
variable {X : Cx} {scope : Scope} {own frn : List Str} {fr : List Nat}
theorem CompOk.parts (S : CompOk X scope own fr frn) : scope.kind = .function ∧ (∀ y ∈ scope.names, y.2 ≠ .cell) ∧ (∀ y ∈ scope.names, y.2 = .local → scope.names.lookup y.1 = some .local) ∧
    (∀ y ∈ scope.names, y.2 = .free → X.env.scope.names.lookup y.1 = some .cell ∨ X.env.scope.names.lookup y.1 = some .free) ∧ (own ++ frn).Nodup ∧ (∀ x ∈ own, scope.names.lookup x = some .local) ∧ ∀ x ∈ frn, scope.names.lookup x = some .free := by
  have h := S.ck
  unfold compCheck at h
  simp only [Bool.and_eq_true, List.all_eq_true, decide_eq_true_eq, Bool.or_eq_true, bne_iff_ne, ne_eq, beq_iff_eq] at h
  obtain ⟨⟨⟨⟨⟨⟨h1, h2⟩, h3⟩, h4⟩, h5⟩, h6⟩, h7⟩ := h
  refine ⟨h1, h2, fun y hy e => ?_, fun y hy e => ?_, h5, h6, h7⟩
  · rcases h3 y hy with z | z
    · exact absurd e z
    · exact z
  · rcases h4 y hy with (z | z) | z
    · exact absurd e z
    · exact .inl z
    · exact .inr z
theorem blk_length (S : CompOk X scope own fr frn) (σ : St) : (blk own.length fr σ).length = (own ++ frn).length := by
  unfold blk
  rw [List.length_append, List.length_append, List.length_replicate, List.length_map, S.len]

theorem inv_comp {pins : List (Addr × Obj)} {σ : St} {H : Hp} {s : Shared} {fp : List Addr} {h1 : Heap} {tk : Nat} {C D : Addr} {oD : Obj} {m : Str → Option Value} (I : Inv X pins σ H s) (S : CompOk X scope own fr frn)
    (hfp : ∀ b ∈ fp, FpOk X pins H b) (hlt : ∀ b ∈ fp, b < s.heap.objs.size) (hC : s.heap.objs.size ≤ C) (hn : h1.Ns C m) (hk : ∀ b o, s.heap.get? b = some o → h1.get? b = some o)
    (hD : s.heap.objs.size ≤ D) (hDC : D ≠ C) (hoD : h1.get? D = some oD) (hdD : ∀ v, oD.data ≠ .cell v) :
    Inv (cxComp X scope (own ++ frn) C s H fp) [(D, oD)] (blk own.length fr σ) H { s with heap := h1, toks := tk } := by
  obtain ⟨p1, p2, p3, p4, p5, p6, p7⟩ := S.parts
  have below : ∀ b, b < s.heap.objs.size → b ≠ C := fun b hb z => Nat.lt_irrefl _ (Nat.lt_of_lt_of_le (z ▸ hb) hC)
  have clsub : ∀ x c, (clOf X.env scope.names []).lookup x = some c → X.env.cells.lookup x = some c := fun x c e => by
    rcases clOf_mem _ _ _ _ (lookup_memS e) with q | q
    · cases q
    · exact q
  have clt : ∀ x c, X.env.cells.lookup x = some c → c < s.heap.objs.size := fun x c e => by
    obtain ⟨v, q⟩ := I.cell x c e
    exact q.lt
  have nstk : ∀ b ∈ fp, b ∉ frs X.stack := fun b hb z => by
    obtain ⟨_, f1, f2, _⟩ := hfp b hb
    rcases List.mem_cons.mp (I.stkSub b z) with e | e
    · exact f1 e
    · exact f2 e
  have Dfs : D ∉ frs X.stack := fun z => by
    have q := I.stkSub D z
    rcases List.mem_cons.mp q with e | e
    · exact Nat.lt_irrefl _ (Nat.lt_of_lt_of_le (e ▸ I.lt : D < _) hD)
    · exact I.nofs hD e
  refine ⟨⟨I.ok.mod, p1, I.ok.glob, I.ok.blt, hC, fun x y c e1 e2 => I.ok.inj x y c (clsub x c e1) (clsub y c e2), fun x hx => ?_, fun x c e => absurd e (by show ¬ (false = true); decide), I.ok.hd, I.ok.frames, .inl rfl, fun b hb => ?_, I.bs, Nat.le_trans I.ok.bsz I.sz, fun b o e hb => ?_, nstk, I.stack, I.stkFree⟩,
    rfl, I.bare, Un.kept hk, ⟨m, hn, fun i x v e1 e2 e3 => ?_⟩, fun x c e => ?_, I.hok.fresh hC, fun x c e => I.freeC x c (clsub x c e), fun p hp => ?_, I.hok.kept hk, blk_length S σ⟩
  · -- has
    have hx' : (relabel scope X.env).names.lookup x = some .cell ∨ (relabel scope X.env).names.lookup x = some .free := hx
    have hl : (relabel scope X.env).names.lookup x = _ := lookup_relabel (env := X.env) x scope.names
    rw [hl] at hx'
    cases e : scope.names.lookup x with
    | none =>
      rw [e] at hx'
      rcases hx' with z | z <;> cases z
    | some k =>
      have hmem := lookup_memS e
      have hkf : k = .free := by
        rw [e] at hx'
        simp only [Option.map_some, Option.some.injEq] at hx'
        by_cases c : (k == NameKind.free && X.env.scope.kind == .function && X.env.kindOf x == some .cell) = true
        · simp only [Bool.and_eq_true, beq_iff_eq] at c
          exact c.1.1
        · rw [if_neg c] at hx'
          rcases hx' with z | z
          · exact absurd z (p2 _ hmem)
          · exact z
      subst hkf
      obtain ⟨c, hc⟩ := I.ok.has x (p4 _ hmem rfl)
      obtain ⟨c', hc'⟩ := clOf_has (env := X.env) scope.names [] x (.inr ⟨hmem, c, hc⟩)
      exact mem_lookupS hc'
  · -- exf
    refine ⟨below b (hlt b hb), fun x c e => ?_⟩
    exact (hfp b hb).2.2.2.2.1 x c (clsub x c e)
  · -- noex
    rcases (hfp b hb).2.2.2.1 with z | z
    · exact I.ok.noex b o e z
    · exact absurd (Nat.lt_of_lt_of_le (Heap.lt_size (I.ok.bs b o e).1) z) (Nat.lt_irrefl _)
  · -- loc
    show ∃ u, RelV v u ∧ Look _ _ _ x u
    have e1' : (own ++ frn)[i]? = some x := e1
    have e2' : (blk own.length fr σ)[i]? = some (some v) := e2
    unfold blk at e2'
    by_cases hi : i < own.length
    · rw [List.getElem?_append_left (by simpa using hi), List.getElem?_replicate] at e2'
      rw [if_pos hi] at e2'
      cases e2'
    · rw [List.getElem?_append_right (by simpa using hi)] at e2'
      rw [List.getElem?_append_right (by omega)] at e1'
      rw [List.length_replicate, List.getElem?_map] at e2'
      obtain ⟨j, hj1, hj2⟩ := S.ix _ _ e1'
      rw [hj1] at e2'
      simp only [Option.map_some, Option.some.injEq] at e2'
      have hσ : σ[j]? = some (some v) := by
        cases q : σ[j]? with
        | none => rw [q] at e2'; cases e2'
        | some w => rw [q] at e2'; exact congrArg some e2'
      have hfree := p7 x (List.mem_of_getElem? e1')
      have hmem := lookup_memS hfree
      have kx := p4 _ hmem rfl
      have vis : Vis X.env.scope x := by
        rcases kx with z | z
        · exact .inr (.inl z)
        · exact .inr (.inr z)
      obtain ⟨m0, hn0, hl0⟩ := I.loc
      obtain ⟨u, ru, lk⟩ := hl0 j x v hj2 hσ vis
      refine ⟨u, ru, .inr ⟨?_, ?_⟩⟩
      · show (relabel scope X.env).names.lookup x = some .cell ∨ (relabel scope X.env).names.lookup x = some .free
        have hl : (relabel scope X.env).names.lookup x = _ := lookup_relabel (env := X.env) x scope.names
        rw [hl, hfree]
        simp only [Option.map_some, Option.some.injEq]
        by_cases c : (NameKind.free == NameKind.free && X.env.scope.kind == .function && X.env.kindOf x == some .cell) = true
        · rw [if_pos c]; exact .inl rfl
        · rw [if_neg c]; exact .inr rfl
      · rcases lk with ⟨kl, _⟩ | ⟨_, c, hc, hcell⟩
        · have kl' : X.env.scope.names.lookup x = some .local := kl
          rcases kx with z | z <;> (have z' : X.env.scope.names.lookup x = _ := z; rw [kl'] at z'; cases z')
        · obtain ⟨c', hc'⟩ := clOf_has (env := X.env) scope.names [] x (.inr ⟨hmem, c, hc⟩)
          obtain ⟨c2, hc2⟩ := mem_lookupS hc'
          have ec : c2 = c := by
            have := clsub x c2 hc2
            rw [hc] at this
            exact (Option.some.inj this).symm
          subst ec
          obtain ⟨oc, ho, hd⟩ := hcell
          exact ⟨c2, hc2, oc, hk _ _ ho, hd⟩
  · obtain ⟨v, o, ho, hd⟩ := I.cell x c (clsub x c e)
    exact ⟨v, o, hk _ _ ho, hd⟩
  · have hp' : p ∈ ([] : List (Addr × Obj)) ++ [(D, oD)] := hp
    simp only [List.nil_append, List.mem_singleton] at hp'
    subst hp'
    exact ⟨hoD, I.hok.fresh hD, hDC, Dfs, hdD⟩
end
end L2
set_option Elab.async false
set_option linter.all false
set_option maxRecDepth 100000
namespace L2
open PySem PySem.Spec PyProof.Rows

theorem compLoop_go {prog : Program} {w : World} {A : Around} {R : Result → Shared → Prop} {s : Shared} {elt target iter : Expr} {ifs : List Expr} {scope : Scope} {pos : Pos} {it acc : Value} {env : Env} (I : Nat → Shared → Prop)
    (turn : ∀ n s, I n s → wpAny (model prog w) A (pyNext it) (fun r s₁ => match r with
      | none => R (.ok .next) s₁
      | some v => wpAny (model prog w) A (letOwnedTupleGo target it v) (fun _ s₁' => wpAny (model prog w) A (assign target env v) (fun _ s₂ =>
          wpAny (model prog w) A (forIn ifs true fun c r => if r = true then do let ok ← isTrue c env (eval c env); pure (ForInStep.yield ok) else pure (ForInStep.yield r)) (fun ok s₃ =>
            if ok = true then wpAny (model prog w) A (eval elt env) (fun x s₄ =>
              wpAny (model prog w) A (call (.builtin "list.append") [acc, x]) (fun _ s₅ => ∃ m, m < n ∧ I m s₅) (fun _ _ => False) s₄) (fun _ _ => False) s₃
            else ∃ m, m < n ∧ I m s₃) (fun _ _ => False) s₂) (fun _ _ => False) s₁') (fun _ _ => False) s₁) (fun _ _ => False) s)
    (n : Nat) (h : I n s) :
    codeAny (model prog w) A (.compLoop (.ListComp elt [⟨target, iter, ifs, 0⟩] scope pos) 0 it acc env) R s := by
  refine codeAny_loop rfl I (fun n s hI => ?_) n h
  show wpAny _ A ((compTurn (.ListComp elt [⟨target, iter, ifs, 0⟩] scope pos) 0 it acc env).onRaise (fun x => do noteFrame x env; theTreesLotGoes x)) _ _ s
  refine wpAny_noted ?_
  rw [compTurn_list]
  refine wpAny_bind (wpAny_standAt (wpAny_bind (wpAny_mono (turn n s hI) (fun r s₁ h₁ => ?_) fun _ _ h' => h'.elim)))
  cases r with
  | none => exact wpAny_pure h₁
  | some v =>
    refine wpAny_bind (wpAny_mono h₁ (fun _ s₁' h₁' => ?_) fun _ _ h' => h'.elim)
    refine wpAny_bind (wpAny_mono h₁' (fun _ s₂ h₂ => wpAny_bind (wpAny_mono h₂ (fun ok s₃ h₃ => ?_) fun _ _ h' => h'.elim)) fun _ _ h' => h'.elim)
    cases ok with
    | false => exact wpAny_pure ⟨rfl, h₃⟩
    | true =>
      exact wpAny_bind (wpAny_bind (wpAny_mono h₃ (fun x s₄ h₄ => wpAny_bind (wpAny_mono h₄ (fun _ s₅ h₅ => wpAny_pure (wpAny_pure ⟨rfl, h₅⟩)) fun _ _ h' => h'.elim)) fun _ _ h' => h'.elim))

def PF (X : Cx) (ifs : List Expr) (t : TT) : Prop :=
  ∀ (pins : List (Addr × Obj)) (s : Shared) (σ : St) (H : Hp) (Q : Bool → Hp → Prop), Inv X pins σ H s → t σ H Q →
    wpAny (model X.prog X.w) X.A (forIn ifs true fun c r => if r = true then do let ok ← isTrue c X.env (eval c X.env); pure (ForInStep.yield ok) else pure (ForInStep.yield r)) (TP X pins σ Q) X.xe s
def tAll : TT := fun _ H Q => Q true H
theorem pf_nil {X : Cx} : PF X [] tAll := fun _ _ _ H _ I h => wpAny_tests_nil ⟨H, I, h⟩
theorem pf_one {X : Cx} {c : Expr} {t : TT} (h : PT X c t) : PF X [c] t := fun pins s σ H Q I hq => wpAny_tests_one (h pins s σ H Q I hq)

def tComp (own : Nat) (fr : List Nat) (wi : TI) (g : TG) (tt : TT) (te : TE) : TE := fun σ H Q => wi σ H fun J H1 => ∃ W : Nat → Nat → List V → St → Hp → Prop, (∃ m, W 0 m [] (blk own fr σ) H1) ∧ ∀ i m ys σ' H, W i m ys σ' H →
  (J.stop i H ∧ ∀ p, H p = none → Q (.ref p) (upd H p (.lst ys))) ∨
  (J.go i H ∧ ∃ N : List V → St → Hp → Prop, (∀ ys' σ2 H2, N ys' σ2 H2 → ∃ m', m' < m ∧ W (i + 1) m' ys' σ2 H2) ∧
    ∀ x H', J.yld i H x H' → g x σ' H' fun σ2 H2 => tt σ2 H2 fun b H3 => if b = true then te σ2 H3 fun y H4 => ys.length < sizeLine ∧ N (ys ++ [y]) σ2 H4 else N ys σ2 H3)

section
variable {X : Cx} {scope : Scope} {own frn : List Str} {fr : List Nat} {elt tg iter : Expr} {ifs : List Expr} {pos : Pos} {wi : TI} {g : TG} {tt : TT} {te : TE}

theorem Inv.track {pins : List (Addr × Obj)} {σ : St} {H : Hp} {s : Shared} {D : Addr} {ys : List V} {its : Array Value} (I : Inv X pins σ H s) (hD : s.heap.PlainList D its) (hv : Vals ys its.toList) (hz : ys.length ≤ sizeLine) (hn : H D = none) (hL : D ≠ X.env.locals)
    (h1 : X.s₀.heap.objs.size ≤ D) (h2 : ∀ x c, X.env.cells.lookup x = some c → c ≠ D) (h3 : ∀ p ∈ X.pn ++ pins, p.1 ≠ D) : Inv X pins σ (upd H D (.lst ys)) s := by
  have ne : ∀ b u, H b = some u → b ≠ D := fun b u e z => by rw [z, hn] at e; cases e
  refine I.step (g' := s.gens) (d' := s.drawn) (t' := s.toks) (h' := s.heap) (ch := [D]) (fun b hb => ?_) (fun b o _ _ _ e _ => e) (fun b o _ _ _ e _ => ⟨o.slots, e⟩) (fun b o hc _ n => ?_) (fun b o _ e => ⟨o, e⟩)
    (fun b xs e => by rw [upd_ne (ne b _ e)]; exact e) (fun b o u e => by rw [upd_ne (ne b _ e)]; exact e) (fun b ps e => ⟨#[], by rw [upd_ne (ne b _ e), e]; simp⟩) (fun _ h => h) (fun b u e => ?_) I.bare
  · have e : b = D := by simpa using hb
    subst e
    exact ⟨.inr h1, hL, h2, h3⟩
  · rw [upd_ne (by simpa using hc)]; exact n
  · by_cases hb : b = D
    · subst hb
      rw [upd_same] at e; cases e
      obtain ⟨n, e⟩ := hD
      exact ⟨hz, its.toList, n, hv, by simpa using e⟩
    · rw [upd_ne hb] at e
      exact (I.hok b u e).stay (fun c v _ q => q) (fun c q => by rw [upd_ne (ne c _ q)]; exact q) fun c xs q => by rw [upd_ne (ne c _ q)]; exact q

theorem comp_block {pins : List (Addr × Obj)} {σ : St} {H2 : Hp} {s2 : Shared} {it : Addr} {fp : List Addr} {tn : Nat → Heap → Prop} {J : It} {RR : Value → Addr → Result → Shared → Prop} {E : Value → Shared → Prop} {Q : Hp → List V → Prop}
    (S : CompOk X scope own fr frn) (hc : X.calm = true) (I2 : Inv X pins σ H2 s2) (T : Turn X.prog X.w X.K tg J fp it tn) (st2 : tn 0 s2.heap) (f2 : ∀ b ∈ fp, FpOk X pins H2 b)
    (hg : ∀ C s0 H0 fp, PG (cxComp X scope (own ++ frn) C s0 H0 fp) tg g) (ht : ∀ C s0 H0 fp, PF (cxComp X scope (own ++ frn) C s0 H0 fp) ifs tt) (he : ∀ C s0 H0 fp, PE (cxComp X scope (own ++ frn) C s0 H0 fp) elt te)
    (w : ∃ W : Nat → Nat → List V → St → Hp → Prop, (∃ m, W 0 m [] (blk own.length fr σ) H2) ∧ ∀ i m ys σ' H, W i m ys σ' H →
      (J.stop i H ∧ Q H ys) ∨
      (J.go i H ∧ ∃ N : List V → St → Hp → Prop, (∀ ys' σ2 H2, N ys' σ2 H2 → ∃ m', m' < m ∧ W (i + 1) m' ys' σ2 H2) ∧
        ∀ x H', J.yld i H x H' → g x σ' H' fun σ2 H2 => tt σ2 H2 fun b H3 => if b = true then te σ2 H3 fun y H4 => ys.length < sizeLine ∧ N (ys ++ [y]) σ2 H4 else N ys σ2 H3))
    (hRR : ∀ (C D : Addr) (s' : Shared) (H' : Hp) (ys : List V) (its : Array Value) (m : Str → Option Value), s2.heap.objs.size ≤ C → s2.heap.objs.size ≤ D → D ≠ C → s'.heap.Ns C m → H' C = none → H' D = none → s'.heap.PlainList D its → Vals ys its.toList → ys.length ≤ sizeLine →
      Inv X pins σ H' s' → Q H' ys → RR (.ref D) C (.ok .next) s') :
    wpAny (model X.prog X.w) X.A (newList []) (fun acc s₃ => wpAny (model X.prog X.w) X.A (newFunctionEnv scope X.env.globals (clOf X.env scope.names []) [] X.env.qual none .none (some X.env)) (fun cenv s₄ =>
      codeAny (model X.prog X.w) X.A (.compStart (.ListComp elt [⟨tg, iter, ifs, 0⟩] scope pos) 0 (.ref it) acc { cenv with scope := relabel scope X.env }) (RR acc cenv.locals) s₄) E s₃) E s2 := by
  obtain ⟨p1, p2, p3, p4, p5, p6, p7⟩ := S.parts
  obtain ⟨W, ⟨m0, w0⟩, turn⟩ := w
  refine wpAny_newObj_type (wpAny_newFunctionEnv p2 (by intro y hy; simp at hy) (fun h₁ hns₁ hsb₁ => ?_) p1)
  dsimp only at hns₁ hsb₁ ⊢
  generalize hH2 : s2.heap.push { cls := .type "list", dict := none, data := .seq ([] : List Value).toArray } = HD at hns₁ hsb₁ ⊢
  have hCs : HD.objs.size = s2.heap.objs.size + 1 := by rw [← hH2, Heap.size_push]
  have hDC : s2.heap.objs.size ≠ HD.objs.size := by omega
  have hCle : s2.heap.objs.size ≤ HD.objs.size := by omega
  have below : ∀ b, b < s2.heap.objs.size → b ≠ HD.objs.size ∧ b ≠ s2.heap.objs.size := fun b hb => ⟨by omega, by omega⟩
  have old : ∀ b o, s2.heap.get? b = some o → h₁.get? b = some o := fun b o e => hsb₁.extBut b o (below b (Heap.lt_size e)).1 (Heap.get?_push_of_some _ (hH2 ▸ Heap.get?_push_of_some _ e))
  have hacc : h₁.get? s2.heap.objs.size = some { cls := .type "list", data := .seq ([] : List Value).toArray } := hsb₁.extBut _ _ hDC (Heap.get?_push_of_some _ (hH2 ▸ Heap.get?_push_size _ rfl))
  have flt : ∀ b ∈ fp, b < s2.heap.objs.size := fun b hb => by
    obtain ⟨o, e, _⟩ := T.obj _ _ st2 b hb
    exact Heap.lt_size e
  generalize hDg : s2.heap.objs.size = D at *
  generalize hCg : HD.objs.size = C at *
  have st3 : tn 0 h₁ := T.keep _ _ _ st2 fun b _ o e => old b o e
  -- facts of the block
  have clsub : ∀ x c, (clOf X.env scope.names []).lookup x = some c → X.env.cells.lookup x = some c := fun x c e => by
    rcases clOf_mem _ _ _ _ (lookup_memS e) with q | q
    · cases q
    · exact q
  have cD : ∀ x c, (clOf X.env scope.names []).lookup x = some c → c ≠ D := fun x c e z => by
    obtain ⟨v, q⟩ := I2.cell x c (clsub x c e)
    exact Nat.lt_irrefl _ (Nat.lt_of_lt_of_le q.lt (by rw [hDg, z]; exact Nat.le_refl _))
  have loop : ∀ s₃ : Shared, s₃ = { s2 with heap := h₁, toks := s2.toks + ([] : List (Str × Value)).length } →
      codeAny (model X.prog X.w) X.A (.compLoop (.ListComp elt [⟨tg, iter, ifs, 0⟩] scope pos) 0 (.ref it) (.ref D) (compEnvC scope (clOf X.env scope.names []) C X.env)) (RR (.ref D) C) s₃ := by
    rintro s₃ rfl
    have I3 : Inv (cxComp X scope (own ++ frn) C s2 H2 fp) [(D, _)] (blk own.length fr σ) H2 { s2 with heap := h₁, toks := s2.toks + ([] : List (Str × Value)).length } :=
      inv_comp (m := fun _ => none) I2 S f2 (by rw [hDg]; exact flt) (by rw [hDg]; exact hCle) (hns₁ : h₁.Ns C _) old (by rw [hDg]; exact Nat.le_refl _) hDC hacc (fun v z => by cases z)
    have stat : ∀ {H' : Hp} {pl : List (Addr × Obj)}, (∀ p ∈ pl, p.1 = D) → (∀ b ∈ fp, H' b = none) → ∀ b ∈ fp, FpOk (cxComp X scope (own ++ frn) C s2 H2 fp) pl H' b := fun {H' pl} hpl hn b hb => by
      refine ⟨hn b hb, (below b (flt b hb)).1, fun z => ?_, .inl hb, fun x c e => (f2 b hb).2.2.2.2.1 x c (clsub x c e), fun p hp => ?_⟩
      · have z' : b ∈ frs X.stack := z
        rcases List.mem_cons.mp (I2.stkSub b z') with e | e
        · exact (f2 b hb).2.1 e
        · exact (f2 b hb).2.2.1 e
      · have hp' : p ∈ pl := by simpa [cxComp] using hp
        rw [hpl p hp']
        exact Ne.symm (below b (flt b hb)).2
    refine compLoop_go (env := compEnvC scope (clOf X.env scope.names []) C X.env) (fun n s' => ∃ i σ' H' ys its o, Inv (cxComp X scope (own ++ frn) C s2 H2 fp) [(D, o)] σ' H' s' ∧ s'.heap.PlainList D its ∧ Vals ys its.toList ∧ ys.length ≤ sizeLine ∧ tn i s'.heap ∧ (∀ b ∈ fp, H' b = none) ∧ W i n ys σ' H') ?_ m0
      ⟨0, _, H2, [], #[], _, I3, ⟨_, hacc⟩, .nil, Nat.zero_le _, st3, fun b hb => (f2 b hb).1, w0⟩
    rintro n s5 ⟨i, σ5, H5, ys, its, o, I5, pl5, v5, z5, st5, fr5, w5⟩
    have one : ∀ {o : Obj}, ∀ p ∈ [(D, o)], p.1 = D := fun p hp => by
      have e := List.mem_singleton.mp hp
      rw [e]
    rcases turn i n ys σ5 H5 w5 with ⟨stop, qn⟩ | ⟨go, N, hN, step⟩
    · refine wpAny_mono (T.done (cxComp X scope (own ++ frn) C s2 H2 fp) rfl rfl rfl hc i _ s5 σ5 H5 (fun _ _ => False) I5 (stat one fr5) st5 stop) (fun r s6 hx9 => ?_) fun _ _ z => z
      obtain ⟨hr, I6⟩ := hx9
      subst hr
      obtain ⟨m6, hn6, _⟩ := I6.loc
      have p6 := I6.pin (D, o) (by simp [cxComp])
      have p5' := I5.pin (D, o) (by simp [cxComp])
      have pl6 : s6.heap.PlainList D its := by
        obtain ⟨k, e⟩ := pl5
        have e1 : o = _ := Option.some.inj (p5'.1.symm.trans e)
        exact ⟨k, by rw [p6.1]; exact congrArg some e1⟩
      have IX : Inv X pins σ H5 s6 := I2.call' (ch := fp) I6.os I6.base I6.hok I6.bare fun b hb => ⟨(f2 b hb).2.2.2.1, (f2 b hb).2.1, (f2 b hb).2.2.2.2.1, (f2 b hb).2.2.2.2.2⟩
      exact hRR C D s6 H5 ys its m6 hCle (Nat.le_refl _) hDC hn6 I6.free p6.2.1 pl6 v5 z5 IX qn
    · refine wpAny_mono (T.item (cxComp X scope (own ++ frn) C s2 H2 fp) rfl rfl rfl hc i _ s5 σ5 H5 (fun _ _ => False) I5 (stat one fr5) st5 go) (fun r s6 hx9 => ?_) fun _ _ z => z
      obtain ⟨u, hr, h6⟩ := hx9
      subst hr
      refine wpAny_mono h6 (fun _ s7 hx9 => ?_) fun _ _ z => z
      obtain ⟨x, H7, I7, r7, y7, st7, fr7⟩ := hx9
      have I7' := I7.pinned (stat one fr7) (T.obj _ _ st7)
      refine wpAny_mono (hg C s2 H2 fp _ s7 σ5 H7 x u _ I7' r7 (step x H7 y7)) (fun _ s8 hx9 => ?_) fun _ _ z => z
      obtain ⟨σ8, H8, I8, q8⟩ := hx9
      refine wpAny_mono (ht C s2 H2 fp _ s8 σ8 H8 _ I8 q8) (fun b s9 hx9 => ?_) fun _ _ z => z
      obtain ⟨H9, I9, q9⟩ := hx9
      -- what stands of the iterator and of the gathered list behind the tests, behind the item
      have keepT : ∀ {H' : Hp} {s' : Shared} {σ' : St}, Inv (cxComp X scope (own ++ frn) C s2 H2 fp) ([(D, o)] ++ pinsAt fp s7.heap) σ' H' s' → tn (i + 1) s'.heap ∧ (∀ b ∈ fp, H' b = none) ∧ s'.heap.PlainList D its ∧ H' D = none := fun {H' s' σ'} I' => by
        refine ⟨T.keep _ _ _ st7 fun b hb o e => (I'.pin (b, o) (List.mem_append_right _ (List.mem_append_right _ (mem_pinsAt hb e)))).1, fun b hb => ?_, ?_, ?_⟩
        · obtain ⟨o, e, d⟩ := T.obj _ _ st7 b hb
          exact (I'.pin (b, o) (List.mem_append_right _ (List.mem_append_right _ (mem_pinsAt hb e)))).2.1
        · have p' := I'.pin (D, o) (by simp [cxComp])
          have p5' := I5.pin (D, o) (by simp [cxComp])
          obtain ⟨k, e⟩ := pl5
          have e1 : o = _ := Option.some.inj (p5'.1.symm.trans e)
          exact ⟨k, by rw [p'.1]; exact congrArg some e1⟩
        · exact (I'.pin (D, o) (by simp [cxComp])).2.1
      cases b with
      | false =>
        rw [if_neg Bool.false_ne_true] at q9
        rw [if_neg Bool.false_ne_true]
        obtain ⟨m', hm, w'⟩ := hN ys σ8 H9 q9
        obtain ⟨t9, fr9, pl9, _⟩ := keepT I9
        exact ⟨m', hm, i + 1, σ8, H9, ys, its, o, I9.unpinned, pl9, v5, z5, t9, fr9, w'⟩
      | true =>
        rw [if_pos rfl] at q9
        rw [if_pos rfl]
        refine wpAny_mono (he C s2 H2 fp _ s9 σ8 H9 _ I9 q9) (fun y s10 hx9 => ?_) fun _ _ z => z
        obtain ⟨yv, H10, I10, r10, lt10, q10⟩ := hx9
        obtain ⟨t10, fr10, pl10, hD10⟩ := keepT I10
        have hl := v5.length
        refine wpAny_list_append_plain pl10 (fun h11 pl11 sb11 => ?_) (by rw [← Array.length_toList, ← hl]; exact Nat.le_of_lt lt10)
        obtain ⟨m', hm, w'⟩ := hN _ σ8 H10 q10
        have I10' : Inv (cxComp X scope (own ++ frn) C s2 H2 fp) [] σ8 H10 s10 := I10.pins_of fun p hp => by cases hp
        have I11 : Inv (cxComp X scope (own ++ frn) C s2 H2 fp) [] σ8 H10 { s10 with heap := h11 } :=
          I10'.turned (t' := s10.toks) (it := D) (fun b o hb e => (sb11.2 b hb).trans e) hD10 hDC (.inr (by show s2.heap.objs.size ≤ D; rw [hDg]; exact Nat.le_refl _)) cD (fun p hp => by simp [cxComp] at hp)
        obtain ⟨k11, e11⟩ := id pl11
        have DfsX : D ∉ frs X.stack := fun z => by
          rcases List.mem_cons.mp (I2.stkSub D z) with e | e
          · exact Nat.lt_irrefl _ (Nat.lt_of_lt_of_le I2.lt (by rw [hDg, e]; exact Nat.le_refl _))
          · exact I2.nofs (by rw [hDg]; exact Nat.le_refl _) e
        refine ⟨m', hm, i + 1, σ8, H10, ys ++ [yv], its.push y, { cls := .type "list", data := .seq (its.push y) k11 }, I11.pins_of fun p hp => ?_, pl11, ?_, by rw [List.length_append]; show ys.length + 1 ≤ _; omega, T.keep _ _ _ t10 fun b hb o e => (sb11.2 b (below b (flt b hb)).2).trans e, fr10, w'⟩
        · have e := List.mem_singleton.mp hp
          subst e
          exact ⟨e11, hD10, hDC, DfsX, fun v z => by cases z⟩
        · rw [Array.toList_push]
          exact v5.append (.cons r10 .nil)
  exact codeAny_compStart_list (loop _ rfl) (T.self X.A 0 _ _ _ st3 (loop _ rfl))

theorem CompOk.clo {pins : List (Addr × Obj)} {σ : St} {H : Hp} {s : Shared} (S : CompOk X scope own fr frn) (I : Inv X pins σ H s) : closureFor scope X.env = pure (clOf X.env scope.names []) := by
  obtain ⟨p1, p2, p3, p4, p5, p6, p7⟩ := S.parts
  exact clo_of fun y hy e => I.ok.has y.1 (p4 y hy e)

theorem pe_comp (S : CompOk X scope own fr frn) (hc : X.calm = true) (hi : PI X tg iter wi) (hg : ∀ C s0 H0 fp, PG (cxComp X scope (own ++ frn) C s0 H0 fp) tg g) (ht : ∀ C s0 H0 fp, PF (cxComp X scope (own ++ frn) C s0 H0 fp) ifs tt)
    (he : ∀ C s0 H0 fp, PE (cxComp X scope (own ++ frn) C s0 H0 fp) elt te) (hs : ∀ x, foldedSetIterable iter X.env x = pure x := by intro _; rfl) :
    PE X (.ListComp elt [⟨tg, iter, ifs, 0⟩] scope pos) (tComp own.length fr wi g tt te) := by
  intro pins s σ H Q I h
  obtain ⟨p1, p2, p3, p4, p5, p6, p7⟩ := S.parts
  rw [eval_ListComp]
  refine wpAny_comprehension_free (use := none) rfl hs (S.clo I) p1 p3 (thn (hi pins s σ H _ I h) fun v s1 h1 => thn h1 fun itv s2 h2 => ?_)
  obtain ⟨it, fp, tn, J, H2, e, I2, T, st2, f2, hw⟩ := h2
  subst e
  refine comp_block (RR := fun acc C => compPost (model X.prog X.w) X.A X.xe none (EP X pins σ Q) acc C) (Q := fun H ys => ∀ p, H p = none → Q (.ref p) (upd H p (.lst ys))) S hc I2 T st2 f2 hg ht he hw ?_
  intro C D s' H' ys its m hC hD hDC hns hHC hHD pl v z IX q
  have cne : ∀ a, s2.heap.objs.size ≤ a → ∀ x c, X.env.cells.lookup x = some c → c ≠ a := fun a ha x c e z => by
    obtain ⟨v, w⟩ := I2.cell x c e
    exact Nat.lt_irrefl _ (Nat.lt_of_lt_of_le w.lt (by rw [z]; exact ha))
  have pne : ∀ a, s2.heap.objs.size ≤ a → ∀ p ∈ X.pn ++ pins, p.1 ≠ a := fun a ha p hp z => Nat.lt_irrefl _ (Nat.lt_of_lt_of_le (Heap.lt_size (I2.pin p hp).1) (by rw [z]; exact ha))
  have lne : ∀ a, s2.heap.objs.size ≤ a → a ≠ X.env.locals := fun a ha z => Nat.lt_irrefl _ (Nat.lt_of_lt_of_le I2.lt (by rw [← z]; exact ha))
  refine ⟨m, hns, fun h' hs' => ⟨.ref D, upd H' D (.lst ys), ?_, rfl, q D hHD⟩⟩
  have IT : Inv X pins σ (upd H' D (.lst ys)) s' := IX.track pl v z hHD (lne D hD) (Nat.le_trans I2.sz hD) (cne D hD) (pne D hD)
  exact IT.turned (t' := s'.toks) (it := C) (fun b o hb e => (hs'.2 b hb).trans e) (by rw [upd_ne (Ne.symm hDC)]; exact hHC) (lne C hC) (.inr (Nat.le_trans I2.sz hC)) (cne C hC) (pne C hC)

theorem ps_setcomp {i : Nat} {y : Str} {py spos : Pos} (S : CompOk X scope own fr frn) (hc : X.calm = true) (hN : X.N.Nodup) (hyi : X.N[i]? = some y) (hx : X.env.scope.names.lookup y = some .local)
    (hsw : swapsWith (.ListComp elt [⟨tg, iter, ifs, 0⟩] scope pos) (some (.Name y py)) spos.line X.env = pure true)
    (hi : PI X tg iter wi) (hg : ∀ C s0 H0 fp, PG (cxComp X scope (own ++ frn) C s0 H0 fp) tg g) (ht : ∀ C s0 H0 fp, PF (cxComp X scope (own ++ frn) C s0 H0 fp) ifs tt)
    (he : ∀ C s0 H0 fp, PE (cxComp X scope (own ++ frn) C s0 H0 fp) elt te) (hs : ∀ x, foldedSetIterable iter X.env x = pure x := by intro _; rfl) :
    PS X (.Assign [.Name y py] (.ListComp elt [⟨tg, iter, ifs, 0⟩] scope pos) spos) (tAsg (tComp own.length fr wi g tt te) (gName i)) := by
  intro pins s σ H D I h
  obtain ⟨p1, p2, p3, p4, p5, p6, p7⟩ := S.parts
  rw [exec_Assign_Name_used _ _ _ _ hsw]
  refine wpAny_bind (wpAny_standAt (wpAny_bind ?_))
  show wpAny _ X.A (do let _ ← comprehension (.ListComp elt [⟨tg, iter, ifs, 0⟩] scope pos) scope X.env _ (newList []) false (eval iter X.env) (some (assign (.Name y py) X.env))) _ _ s
  refine wpAny_bind (wpAny_mono (wpAny_comprehension_free (use := some (assign (.Name y py) X.env)) (Q := fun _ s' => SP X pins D .next s') rfl hs (S.clo I) p1 p3 (thn (hi pins s σ H _ I h) fun v s1 h1 => thn h1 fun itv s2 h2 => ?_))
    (fun _ s' hq => wpAny_pure (wpAny_pure hq)) fun _ _ e => e)
  obtain ⟨it, fp, tn, J, H2, e, I2, T, st2, f2, hw⟩ := h2
  subst e
  refine comp_block (RR := fun acc C => compPost (model X.prog X.w) X.A X.xe (some (assign (.Name y py) X.env)) (fun _ s' => SP X pins D .next s') acc C) (Q := fun H ys => ∀ p, H p = none → D.nx (σ.set i (some (.ref p))) (upd H p (.lst ys))) S hc I2 T st2 f2 hg ht he hw ?_
  intro C L s' H' ys its m hC hL hLC hns hHC hHL pl v z IX q
  have cne : ∀ a, s2.heap.objs.size ≤ a → ∀ x c, X.env.cells.lookup x = some c → c ≠ a := fun a ha x c e z => by
    obtain ⟨v, w⟩ := I2.cell x c e
    exact Nat.lt_irrefl _ (Nat.lt_of_lt_of_le w.lt (by rw [z]; exact ha))
  have pne : ∀ a, s2.heap.objs.size ≤ a → ∀ p ∈ X.pn ++ pins, p.1 ≠ a := fun a ha p hp z => Nat.lt_irrefl _ (Nat.lt_of_lt_of_le (Heap.lt_size (I2.pin p hp).1) (by rw [z]; exact ha))
  have lne : ∀ a, s2.heap.objs.size ≤ a → a ≠ X.env.locals := fun a ha z => Nat.lt_irrefl _ (Nat.lt_of_lt_of_le I2.lt (by rw [← z]; exact ha))
  have IT : Inv X pins σ (upd H' L (.lst ys)) s' := IX.track pl v z hHL (lne L hL) (Nat.le_trans I2.sz hL) (cne L hL) (pne L hL)
  show wpAny _ _ (assign (.Name y py) X.env (.ref L)) _ _ s'
  refine wpAny_assign_Name (store_ok2 IT hN hyi (.inl hx) (v := .ref L) rfl (fun s'' I'' hch => ?_) (.inr hx))
  obtain ⟨a, sb, ha⟩ := hch
  have hCa : C ≠ a := by
    rcases ha with e | e
    · rw [e]; exact lne C hC
    · exact Ne.symm (cne C hC y a e)
  refine ⟨m, hns.sameBut sb hCa, fun h' hs' => ⟨σ.set i (some (.ref L)), upd H' L (.lst ys), ?_, q L hHL⟩⟩
  exact I''.turned (t' := s''.toks) (it := C) (fun b o hb e => (hs'.2 b hb).trans e) (by rw [upd_ne (Ne.symm hLC)]; exact hHC) (lne C hC) (.inr (Nat.le_trans I2.sz hC)) (cne C hC) (pne C hC)
end

end L2
set_option Elab.async false
set_option linter.all false
set_option maxRecDepth 100000
namespace L2
open PySem PySem.Spec PyProof.Rows

inductive Kd where
  | int | bl | non | str | tup | lst | dct
  deriving DecidableEq
def KdV (K : PySem.W.Frag) (H : Hp) : V → Kd → Prop
  | .int _, k => k = .int
  | .bl _, k => k = .bl
  | .non, k => k = .non
  | .str _, k => k = .str
  | .ref p, k => (k = .lst ∧ ∃ xs, SqL K H p xs) ∨ (k = .tup ∧ ∃ xs, SqT K H p xs) ∨ (k = .dct ∧ ∃ kvs, H p = some (.dK kvs))
  | _, _ => False
section
variable {X : Cx}
theorem dK_cls {pins : List (Addr × Obj)} {σ : St} {H : Hp} {s : Shared} {p : Addr} {kvs : List (Key × V)} (I : Inv X pins σ H s) (h : H p = some (.dK kvs)) : ∃ o, s.heap.get? p = some o ∧ o.cls = .type "dict" := by
  obtain ⟨_, _, vs, _, o, es, ep, e, ex, _⟩ := I.hok p _ h
  exact ⟨o, e, ex.1⟩
theorem call_isi_int : CallR X (.builtin "isinstance") (fun xs H Q => ∃ x k, xs = [x, .ty "int"] ∧ KdV X.K H x k ∧ Q (.bl (decide (k = .int ∨ k = .bl))) H) := by
  intro pins s σ H xs us Q I r h
  obtain ⟨x, k, rfl, hk, q⟩ := h
  obtain ⟨u, t, rfl, rx, rt⟩ := vals2 r
  cases rt
  cases x with
  | int i => cases hk; obtain ⟨t, rfl⟩ := rx; exact IsiPair.int_int ⟨.bl true, H, I, rfl, q⟩
  | bl b => cases hk; cases rx; exact IsiPair.bool_int ⟨.bl true, H, I, rfl, q⟩
  | non => cases hk; cases rx; exact IsiPair.NoneType_int ⟨.bl false, H, I.tok _, rfl, q⟩
  | str y => cases hk; obtain ⟨t, rfl⟩ := rx; exact IsiPair.str_int ⟨.bl false, H, I.tok _, rfl, q⟩
  | ref p =>
    cases rx
    rcases hk with ⟨rfl, xs, hx⟩ | ⟨rfl, xs, hx⟩ | ⟨rfl, kvs, hx⟩
    · obtain ⟨its, r', pl, hz⟩ := I.list hx; exact IsiPair.isList_int pl.isList (fun _ _ e => e) ⟨.bl false, H, I.tok _, rfl, q⟩
    · obtain ⟨its, r', pl, hz⟩ := I.tuple hx; exact IsiPair.isTuple_int pl (fun _ _ e => e) ⟨.bl false, H, I.tok _, rfl, q⟩
    · obtain ⟨o, e, c⟩ := dK_cls I hx; exact IsiPair.dict_int e c ⟨.bl false, H, I.tok _, rfl, q⟩
  | _ => exact hk.elim
theorem call_isi_bool : CallR X (.builtin "isinstance") (fun xs H Q => ∃ x k, xs = [x, .ty "bool"] ∧ KdV X.K H x k ∧ Q (.bl (decide (k = .bl))) H) := by
  intro pins s σ H xs us Q I r h
  obtain ⟨x, k, rfl, hk, q⟩ := h
  obtain ⟨u, t, rfl, rx, rt⟩ := vals2 r
  cases rt
  cases x with
  | int i => cases hk; obtain ⟨t, rfl⟩ := rx; exact IsiPair.int_bool ⟨.bl false, H, I.tok _, rfl, q⟩
  | bl b => cases hk; cases rx; exact IsiPair.bool_bool ⟨.bl true, H, I, rfl, q⟩
  | non => cases hk; cases rx; exact IsiPair.NoneType_bool ⟨.bl false, H, I.tok _, rfl, q⟩
  | str y => cases hk; obtain ⟨t, rfl⟩ := rx; exact IsiPair.str_bool ⟨.bl false, H, I.tok _, rfl, q⟩
  | ref p =>
    cases rx
    rcases hk with ⟨rfl, xs, hx⟩ | ⟨rfl, xs, hx⟩ | ⟨rfl, kvs, hx⟩
    · obtain ⟨its, r', pl, hz⟩ := I.list hx; exact IsiPair.isList_bool pl.isList (fun _ _ e => e) ⟨.bl false, H, I.tok _, rfl, q⟩
    · obtain ⟨its, r', pl, hz⟩ := I.tuple hx; exact IsiPair.isTuple_bool pl (fun _ _ e => e) ⟨.bl false, H, I.tok _, rfl, q⟩
    · obtain ⟨o, e, c⟩ := dK_cls I hx; exact IsiPair.dict_bool e c ⟨.bl false, H, I.tok _, rfl, q⟩
  | _ => exact hk.elim
theorem call_isi_tuple : CallR X (.builtin "isinstance") (fun xs H Q => ∃ x k, xs = [x, .ty "tuple"] ∧ KdV X.K H x k ∧ Q (.bl (decide (k = .tup))) H) := by
  intro pins s σ H xs us Q I r h
  obtain ⟨x, k, rfl, hk, q⟩ := h
  obtain ⟨u, t, rfl, rx, rt⟩ := vals2 r
  cases rt
  cases x with
  | int i => cases hk; obtain ⟨t, rfl⟩ := rx; exact IsiPair.int_tuple ⟨.bl false, H, I.tok _, rfl, q⟩
  | bl b => cases hk; cases rx; exact IsiPair.bool_tuple ⟨.bl false, H, I.tok _, rfl, q⟩
  | non => cases hk; cases rx; exact IsiPair.NoneType_tuple ⟨.bl false, H, I.tok _, rfl, q⟩
  | str y => cases hk; obtain ⟨t, rfl⟩ := rx; exact IsiPair.str_tuple ⟨.bl false, H, I.tok _, rfl, q⟩
  | ref p =>
    cases rx
    rcases hk with ⟨rfl, xs, hx⟩ | ⟨rfl, xs, hx⟩ | ⟨rfl, kvs, hx⟩
    · obtain ⟨its, r', pl, hz⟩ := I.list hx; exact IsiPair.isList_tuple pl.isList (fun _ _ e => e) ⟨.bl false, H, I.tok _, rfl, q⟩
    · obtain ⟨its, r', pl, hz⟩ := I.tuple hx; exact IsiPair.isTuple_tuple pl (fun _ _ e => e) ⟨.bl true, H, I, rfl, q⟩
    · obtain ⟨o, e, c⟩ := dK_cls I hx; exact IsiPair.dict_tuple e c ⟨.bl false, H, I.tok _, rfl, q⟩
  | _ => exact hk.elim
theorem all_range (bs : List Bool) (tr : Nat → Bool) (h : ∀ i b, bs[i]? = some b → tr i = b) : (List.range bs.length).all tr = bs.all id := by
  rw [Bool.eq_iff_iff, List.all_eq_true, List.all_eq_true]
  constructor
  · intro q b hb
    obtain ⟨i, hi⟩ := List.getElem?_of_mem hb
    have := q i (List.mem_range.mpr (List.getElem?_eq_some_iff.mp hi).1)
    rw [h i b hi] at this
    exact this
  · intro q i hi
    have hi' := List.mem_range.mp hi
    have e : bs[i]? = some bs[i] := List.getElem?_eq_getElem hi'
    rw [h i _ e]
    exact q _ (List.getElem_mem hi')
theorem call_all (hc : X.calm = true) : CallR X (.builtin "all") (fun xs H Q => ∃ (p : Addr) (bs : List Bool), xs = [.ref p] ∧ SqL X.K H p (bs.map V.bl) ∧ Q (.bl (bs.all id)) H) := by
  intro pins s σ H xs us Q I r h
  obtain ⟨p, bs, rfl, hx, q⟩ := h
  obtain ⟨u, rfl, rx⟩ := vals1 r
  cases rx
  obtain ⟨its, rv, pl, hz⟩ := I.list hx
  have hl := rv.length
  rw [List.length_map] at hl
  have hlt : p < s.heap.objs.size := by obtain ⟨o, n, e, _⟩ := pl; exact Heap.lt_size e
  refine call_all_walk (wpAny_pyIter_list pl.isList ?_)
  refine ⟨s.heap.objs.size, _, _, _, _, _, fun i => (bs[i]?).getD false, rfl, Walks.list (A := X.A.in1) (I.ok.hd hc) s.heap.objs.size p (Nat.ne_of_lt hlt) its.toArray, ⟨⟨_, Heap.get?_push_size _ rfl, rfl, rfl⟩, pl.isList.push _⟩, ?_, fun h' tk hk => ?_⟩
  · intro i v s' Q' E' hP hQ'
    have hP' : its[i]? = some v := by simpa using hP
    have hi : i < bs.length := by rw [hl]; exact (List.getElem?_eq_some_iff.mp hP').1
    obtain ⟨w, hw, rw'⟩ := rv.get (i := i) (x := .bl bs[i]) (by rw [List.getElem?_map, List.getElem?_eq_getElem hi]; rfl)
    rw [hw] at hP'
    cases hP'
    cases rw'
    have e : (bs[i]?).getD false = bs[i] := by rw [List.getElem?_eq_getElem hi]; rfl
    rw [← e]
    exact wpAny_truthy_bool hQ'
  · have e : (List.range its.toArray.size).all (fun i => (bs[i]?).getD false) = bs.all id := by
      rw [List.size_toArray, ← hl]
      exact all_range bs _ fun i b hb => by rw [hb]; rfl
    rw [e]
    refine ⟨.bl _, H, I.kept (h' := h') fun b o e => hk b o ?_ (Heap.get?_push_of_some _ e), rfl, q⟩
    intro z
    have z' : b = s.heap.objs.size := by simpa using z
    exact Nat.lt_irrefl _ (z' ▸ Heap.lt_size e)
end
end L2
set_option Elab.async false
set_option linter.all false
set_option maxRecDepth 100000
namespace L2
open PySem PySem.Spec PyProof.Rows

mutual
def Den (K : PySem.W.Frag) (H : Hp) : PyData → V → Prop
  | .none, v => v = .non
  | .bool b, v => v = .bl b
  | .int i, v => v = .int i
  | .str x, v => v = .str x
  | .list ds, v => ∃ a xs, v = .ref a ∧ SqL K H a xs ∧ DenAll K H ds xs
  | .tuple ds, v => ∃ a xs, v = .ref a ∧ SqT K H a xs ∧ DenAll K H ds xs
  | .dict kvs, v => kvs = [] ∧ ∃ a, v = .ref a ∧ H a = some (.dK [])
def DenAll (K : PySem.W.Frag) (H : Hp) : List PyData → List V → Prop
  | [], xs => xs = []
  | d :: ds, xs => ∃ x r, xs = x :: r ∧ Den K H d x ∧ DenAll K H ds r
end
theorem Same.rd {H H' : Hp} {a : Addr} {u : HO} (e : Same H H') (h : Rd H a u) : Rd H' a u := by
  rcases h with h | ⟨o, h⟩
  · exact .inl (e a u h)
  · exact .inr ⟨o, e a _ h⟩
theorem Same.seqL {K : PySem.W.Frag} {H H' : Hp} {a : Addr} {xs : List V} (e : Same H H') (h : SqL K H a xs) : SqL K H' a xs := by
  rcases h with h | h
  · exact .inl (e.rd h)
  · exact .inr h
theorem Same.seqT {K : PySem.W.Frag} {H H' : Hp} {a : Addr} {xs : List V} (e : Same H H') (h : SqT K H a xs) : SqT K H' a xs := by
  rcases h with h | h
  · exact .inl (e.rd h)
  · exact .inr h
theorem Same.new {H : Hp} {p : Addr} {o : HO} (h : H p = none) : Same H (upd H p o) := fun b u e => by rw [upd_ne (ne_of_none e h)]; exact e
mutual
theorem Same.den {K : PySem.W.Frag} {H H' : Hp} (e : Same H H') : ∀ (d : PyData) (v : V), Den K H d v → Den K H' d v
  | .none, v, h => by unfold Den at h ⊢; exact h
  | .bool b, v, h => by unfold Den at h ⊢; exact h
  | .int i, v, h => by unfold Den at h ⊢; exact h
  | .str x, v, h => by unfold Den at h ⊢; exact h
  | .list ds, v, h => by unfold Den at h ⊢; obtain ⟨a, xs, h1, h2, h3⟩ := h; exact ⟨a, xs, h1, e.seqL h2, Same.denAll e ds xs h3⟩
  | .tuple ds, v, h => by unfold Den at h ⊢; obtain ⟨a, xs, h1, h2, h3⟩ := h; exact ⟨a, xs, h1, e.seqT h2, Same.denAll e ds xs h3⟩
  | .dict kvs, v, h => by unfold Den at h ⊢; obtain ⟨h1, a, h2, h3⟩ := h; exact ⟨h1, a, h2, e a _ h3⟩
theorem Same.denAll {K : PySem.W.Frag} {H H' : Hp} (e : Same H H') : ∀ (ds : List PyData) (xs : List V), DenAll K H ds xs → DenAll K H' ds xs
  | [], xs, h => by unfold DenAll at h ⊢; exact h
  | d :: ds, xs, h => by unfold DenAll at h ⊢; obtain ⟨x, r, h1, h2, h3⟩ := h; exact ⟨x, r, h1, Same.den e d x h2, Same.denAll e ds r h3⟩
end
section
variable {K : PySem.W.Frag} {H : Hp}
theorem den_int {i : Int} {v : V} : Den K H (.int i) v ↔ v = .int i := by unfold Den; exact Iff.rfl
theorem den_bool {b : Bool} {v : V} : Den K H (.bool b) v ↔ v = .bl b := by unfold Den; exact Iff.rfl
theorem den_none {v : V} : Den K H .none v ↔ v = .non := by unfold Den; exact Iff.rfl
theorem den_str {x : Str} {v : V} : Den K H (.str x) v ↔ v = .str x := by unfold Den; exact Iff.rfl
theorem den_list {ds : List PyData} {v : V} : Den K H (.list ds) v ↔ ∃ a xs, v = .ref a ∧ SqL K H a xs ∧ DenAll K H ds xs := by
  constructor
  · intro h; unfold Den at h; exact h
  · intro h; unfold Den; exact h
theorem den_tuple {ds : List PyData} {v : V} : Den K H (.tuple ds) v ↔ ∃ a xs, v = .ref a ∧ SqT K H a xs ∧ DenAll K H ds xs := by
  constructor
  · intro h; unfold Den at h; exact h
  · intro h; unfold Den; exact h
theorem den_dict {kvs : List (PyData × PyData)} {v : V} : Den K H (.dict kvs) v ↔ kvs = [] ∧ ∃ a, v = .ref a ∧ H a = some (.dK []) := by
  constructor
  · intro h; unfold Den at h; exact h
  · intro h; unfold Den; exact h
theorem denAll_nil {xs : List V} : DenAll K H [] xs ↔ xs = [] := by unfold DenAll; exact Iff.rfl
theorem denAll_cons {d : PyData} {ds : List PyData} {xs : List V} : DenAll K H (d :: ds) xs ↔ ∃ x r, xs = x :: r ∧ Den K H d x ∧ DenAll K H ds r := by
  constructor
  · intro h; unfold DenAll at h; exact h
  · intro h; unfold DenAll; exact h
theorem denAll_length : ∀ {ds : List PyData} {xs : List V}, DenAll K H ds xs → xs.length = ds.length
  | [], xs, h => by rw [denAll_nil.mp h]; rfl
  | d :: ds, xs, h => by
    obtain ⟨x, r, rfl, _, h3⟩ := denAll_cons.mp h
    rw [List.length_cons, List.length_cons, denAll_length h3]
theorem denAll_get : ∀ {ds : List PyData} {xs : List V} {i : Nat} {d : PyData}, DenAll K H ds xs → ds[i]? = some d → ∃ x, xs[i]? = some x ∧ Den K H d x
  | [], _, _, _, _, e => by simp at e
  | d :: ds, xs, 0, d', h, e => by
    obtain ⟨x, r, rfl, h2, _⟩ := denAll_cons.mp h
    simp at e; subst e
    exact ⟨x, rfl, h2⟩
  | d :: ds, xs, i + 1, d', h, e => by
    obtain ⟨x, r, rfl, _, h3⟩ := denAll_cons.mp h
    obtain ⟨y, h4, h5⟩ := denAll_get (i := i) (d := d') h3 (by simpa using e)
    exact ⟨y, by simpa using h4, h5⟩
theorem denAll_at {ds : List PyData} {xs : List V} {i : Nat} {x : V} (h : DenAll K H ds xs) (e : xs[i]? = some x) : ∃ d, ds[i]? = some d ∧ Den K H d x := by
  have hl := denAll_length h
  have hi : i < ds.length := by rw [← hl]; exact (List.getElem?_eq_some_iff.mp e).1
  obtain ⟨y, h1, h2⟩ := denAll_get h (List.getElem?_eq_getElem hi)
  rw [e] at h1; cases h1
  exact ⟨_, List.getElem?_eq_getElem hi, h2⟩
theorem denAll_append : ∀ {ds es : List PyData} {xs ys : List V}, DenAll K H ds xs → DenAll K H es ys → DenAll K H (ds ++ es) (xs ++ ys)
  | [], es, xs, ys, h, h' => by rw [denAll_nil.mp h]; exact h'
  | d :: ds, es, xs, ys, h, h' => by
    obtain ⟨x, r, rfl, h2, h3⟩ := denAll_cons.mp h
    exact denAll_cons.mpr ⟨x, r ++ ys, rfl, h2, denAll_append h3 h'⟩
theorem denAll_ints : ∀ {ns : List Int} {xs : List V}, DenAll K H (ns.map PyData.int) xs ↔ xs = ns.map V.int
  | [], xs => denAll_nil
  | n :: ns, xs => by
    rw [List.map_cons, denAll_cons]
    constructor
    · rintro ⟨x, r, rfl, h2, h3⟩
      rw [den_int.mp h2, denAll_ints.mp h3]
      rfl
    · intro e
      exact ⟨_, _, e, den_int.mpr rfl, denAll_ints.mpr rfl⟩
theorem den_tints {ns : List Int} {v : V} : Den K H (.tuple (ns.map .int)) v ↔ ∃ a, v = .ref a ∧ SqT K H a (ns.map V.int) := by
  rw [den_tuple]
  constructor
  · rintro ⟨a, xs, rfl, h1, h2⟩
    rw [denAll_ints.mp h2] at h1
    exact ⟨a, rfl, h1⟩
  · rintro ⟨a, rfl, h⟩
    exact ⟨a, _, rfl, h, denAll_ints.mpr rfl⟩
theorem den_lints {ns : List Int} {v : V} : Den K H (.list (ns.map .int)) v ↔ ∃ a, v = .ref a ∧ SqL K H a (ns.map V.int) := by
  rw [den_list]
  constructor
  · rintro ⟨a, xs, rfl, h1, h2⟩
    rw [denAll_ints.mp h2] at h1
    exact ⟨a, rfl, h1⟩
  · rintro ⟨a, rfl, h⟩
    exact ⟨a, _, rfl, h, denAll_ints.mpr rfl⟩
def kdOf : PyData → Kd
  | .none => .non | .bool _ => .bl | .int _ => .int | .str _ => .str | .list _ => .lst | .tuple _ => .tup | .dict _ => .dct
theorem Den.kd {d : PyData} {v : V} (h : Den K H d v) : KdV K H v (kdOf d) := by
  cases d with
  | none => rw [den_none.mp h]; rfl
  | bool b => rw [den_bool.mp h]; rfl
  | int i => rw [den_int.mp h]; rfl
  | str x => rw [den_str.mp h]; rfl
  | list ds => obtain ⟨a, xs, rfl, h1, _⟩ := den_list.mp h; exact .inl ⟨rfl, xs, h1⟩
  | tuple ds => obtain ⟨a, xs, rfl, h1, _⟩ := den_tuple.mp h; exact .inr (.inl ⟨rfl, xs, h1⟩)
  | dict kvs => obtain ⟨_, a, rfl, h1⟩ := den_dict.mp h; exact .inr (.inr ⟨rfl, [], h1⟩)
end

section
variable {X : Cx} {pins : List (Addr × Obj)} {σ : St} {H : Hp} {s : Shared}
mutual
def noDict : PyData → Bool
  | .dict _ => false
  | .list ds => noDicts ds
  | .tuple ds => noDicts ds
  | _ => true
def noDicts : List PyData → Bool
  | [] => true
  | d :: ds => noDict d && noDicts ds
end
mutual
theorem Den.reads (I : Inv X pins σ H s) : ∀ (d : PyData) (v : V) (u : Value), noDict d = true → Den X.K H d v → RelV v u → ∃ as, Reads s.heap u d as
  | .none, v, u, _, h, r => by rw [den_none.mp h] at r; cases r; exact ⟨_, .none⟩
  | .bool b, v, u, _, h, r => by rw [den_bool.mp h] at r; cases r; exact ⟨_, .bool b⟩
  | .int i, v, u, _, h, r => by rw [den_int.mp h] at r; obtain ⟨t, rfl⟩ := r; exact ⟨_, .int i t⟩
  | .str x, v, u, _, h, r => by rw [den_str.mp h] at r; obtain ⟨t, rfl⟩ := r; exact ⟨_, .str x t⟩
  | .list ds, v, u, hn, h, r => by
    obtain ⟨a, xs, rfl, h1, h2⟩ := den_list.mp h
    cases r
    obtain ⟨its, rv, ⟨o, n, e, c, _, d⟩, _⟩ := I.list h1
    obtain ⟨as, ra⟩ := DenAll.reads I ds xs its (by unfold noDict at hn; exact hn) h2 rv
    exact ⟨_, .list e c d (by simpa using ra)⟩
  | .tuple ds, v, u, hn, h, r => by
    obtain ⟨a, xs, rfl, h1, h2⟩ := den_tuple.mp h
    cases r
    obtain ⟨its, rv, ⟨o, e, c, n, d⟩, _⟩ := I.tuple h1
    obtain ⟨as, ra⟩ := DenAll.reads I ds xs its (by unfold noDict at hn; exact hn) h2 rv
    exact ⟨_, .tuple e c d (by simpa using ra)⟩
  | .dict kvs, v, u, hn, _, _ => by unfold noDict at hn; cases hn
theorem DenAll.reads (I : Inv X pins σ H s) : ∀ (ds : List PyData) (xs : List V) (us : List Value), noDicts ds = true → DenAll X.K H ds xs → Vals xs us → ∃ as, ReadsAll s.heap us ds as
  | [], xs, us, _, h, r => by rw [denAll_nil.mp h] at r; cases r; exact ⟨_, .nil⟩
  | d :: ds, xs, us, hn, h, r => by
    obtain ⟨x, rr, rfl, h2, h3⟩ := denAll_cons.mp h
    unfold noDicts at hn
    rw [Bool.and_eq_true] at hn
    cases r with
    | cons r1 r2 =>
      obtain ⟨as, ra⟩ := Den.reads I d x _ hn.1 h2 r1
      obtain ⟨bs, rb⟩ := DenAll.reads I ds rr _ hn.2 h3 r2
      exact ⟨_, .cons ra rb⟩
end
theorem op_eqD (hu : X.A.units + 64 < cLine) : OpR X (compareOp .Eq) (fun x y H Q => ∃ d e, Den X.K H d x ∧ Den X.K H e y ∧ noDict d = true ∧ noDict e = true ∧ SeqAt.shaped d = true ∧ SeqAt.shaped e = true ∧ Q (.bl (PyData.eqv d e)) H) := by
  intro pins s σ H x y v u Q I rx ry h
  obtain ⟨d, e, hd, he, n1, n2, s1, s2, q⟩ := h
  obtain ⟨as, ra⟩ := Den.reads I d x v n1 hd rx
  obtain ⟨bs, rb⟩ := Den.reads I e y u n2 he ry
  exact eq_dataH ra rb s1 s2 hu ⟨.bl _, H, I, rfl, q⟩
theorem op_neD (hu : X.A.units + 64 < cLine) : OpR X (compareOp .NotEq) (fun x y H Q => ∃ d e, Den X.K H d x ∧ Den X.K H e y ∧ noDict d = true ∧ noDict e = true ∧ SeqAt.shaped d = true ∧ SeqAt.shaped e = true ∧ Q (.bl (!PyData.eqv d e)) H) := by
  intro pins s σ H x y v u Q I rx ry h
  obtain ⟨d, e, hd, he, n1, n2, s1, s2, q⟩ := h
  obtain ⟨as, ra⟩ := Den.reads I d x v n1 hd rx
  obtain ⟨bs, rb⟩ := Den.reads I e y u n2 he ry
  exact ne_dataH ra rb s1 s2 hu ⟨.bl _, H, I, rfl, q⟩
end
end L2
set_option Elab.async false
set_option linter.all false
set_option maxRecDepth 100000
namespace L2
open PySem PySem.Spec PyProof.Rows

section
variable {prog : Program} {w : World} {A : Around} {E : Value → Shared → Prop} {s : Shared}
theorem collect_by {x : Value} {Q : List Value → Shared → Prop}
    (h : ∀ R : Result → Shared → Prop, (∀ (s' : Shared) (acc : Array Value) (c : Nat), s'.heap.get? s.heap.objs.size = some { cls := .type "list", data := .seq acc c } → Q acc.toList s' → R (.ok (.ret (.ref s.heap.objs.size))) s') →
      wpAny (model prog w) A.in1 (Builtin.List.listExtendWith (.ref s.heap.objs.size) x (.ref s.heap.objs.size))
        (fun fin s' => match fin with | .done f => R (.ok f) s' | .again c' => c'.quiet = true ∧ codeAny (model prog w) A c' R s') (fun e s' => R (.error e) s') { s with heap := s.heap.push { cls := .type "list", data := .seq ([] : List Value).toArray } }) :
    wpAny (model prog w) A (collect x) Q E s := by
  unfold collect
  refine wpAny_bind (wpAny_runValue (codeAny_builtin PySem.F.entry_proto_collect ?_))
  rw [Around.under_plainId PySem.F.plain_proto_collect _]
  show wpAny _ A.in1 (newList [] >>= fun l => again (.builtin "list.__iadd__" ⟨[l, x], []⟩)) _ _ s
  refine wpAny_bind (wpAny_newObj_type ?_)
  refine wpAny_pure ⟨plainId_quiet PySem.F.plain_list_iadd _, codeAny_builtin PySem.F.entry_list_iadd ?_⟩
  rw [Around.under_plainId PySem.F.plain_list_iadd _]
  show wpAny _ A.in1 (Builtin.List.listExtendWith (.ref s.heap.objs.size) x (.ref s.heap.objs.size)) _ _ _
  have fin' : ∀ (s' : Shared) (acc : Array Value) (c : Nat), s'.heap.get? s.heap.objs.size = some { cls := .type "list", data := .seq acc c } → Q acc.toList s' → wpAny (model prog w) A (match Value.ref s.heap.objs.size with
      | Value.ref a => do
        match (← load a).data with
          | Data.seq xs _ => pure xs.toList
          | _ => unsupported "internal:collect"
      | _ => unsupported "internal:collect") Q E s' := by
    intro s' acc c e q
    show wpAny _ A (load s.heap.objs.size >>= _) _ _ _
    exact wpAny_bind (wpAny_load e (wpAny_pure q))
  refine wpAny_mono (h (fun r s' => r = .ok (.ret (.ref s.heap.objs.size)) ∧ ∃ acc c, s'.heap.get? s.heap.objs.size = some { cls := .type "list", data := .seq acc c } ∧ Q acc.toList s') (fun s' acc c e q => ⟨rfl, acc, c, e, q⟩)) (fun fin s' h => ?_) (fun e s' h => ?_)
  · cases fin with
    | done f =>
      obtain ⟨e, acc, c, e2, q⟩ := h
      cases e
      exact fin' s' acc c e2 q
    | again c' => exact ⟨h.1, codeAny_mono h.2 fun r s'' hr => by obtain ⟨rfl, acc, c, e2, q⟩ := hr; exact fin' s'' acc c e2 q⟩
  · exact absurd h.1 (by simp)

theorem sorted_of {x : Value} {ns : List Int} {Q : Value → Shared → Prop} (h64 : ns.length < 64)
    (hc : ∀ Q' : List Value → Shared → Prop, (∀ h' tk vs, (∀ b o, s.heap.get? b = some o → h'.get? b = some o) → IntsAre vs ns → Q' vs { s with heap := h', toks := tk }) → wpAny (model prog w) A.in1 (collect x) Q' E s)
    (h : ∀ (h1 h' : Heap) tk out ns', (∀ b o, s.heap.get? b = some o → h1.get? b = some o) → (∀ b o, h1.get? b = some o → h'.get? b = some o) → h'.PlainList h1.objs.size out → IntsAre out.toList ns' → ns'.Perm ns → ns'.Pairwise (· ≤ ·) → Q (.ref h1.objs.size) { s with heap := h', toks := tk }) :
    wpAny (model prog w) A (call (.builtin "sorted") [x]) Q E s := by
  refine Calls.call_function_entry kind_sorted plain_sorted entry_sorted (args_sorted1 _) ?_
  unfold Builtin.«sorted»
  refine wpAny_bind (m := checkCount "sorted" 1 1 _) (wpAny_pure ?_)
  refine wpAny_bind (hc _ fun h1 tk vs kp hi => ?_)
  have hlen := hi.length
  refine wpAny_bind (wpAny_newList ?_ (by rw [sizeLine_eq]; omega))
  have hoL : (h1.push (seqObj "list" vs.toArray 0)).get? h1.objs.size = some (seqObj "list" vs.toArray 0) := Heap.get?_push_size _ rfl
  refine wpAny_bind (wpAny_holding (wpAny_call_entry slot_list_sort ⟨_, hoL, rfl⟩ entry_list_sort (list_sort_tree hoL hi (by omega) fun out ns' a1 a2 a3 => ⟨_, rfl, ?_⟩) (args_list_sort _)))
  refine wpAny_pure ⟨_, rfl, ?_⟩
  obtain ⟨e, he⟩ := sortedHeap_at (out := out) hoL
  refine h h1 _ tk out ns' kp (fun b o q => ?_) ⟨e, he⟩ a1 a2 a3
  rw [sortedHeap_old (Nat.ne_of_lt (Heap.lt_size q)) (by rw [size_push']; exact Nat.lt_succ_of_lt (Heap.lt_size q))]
  exact Heap.get?_push_of_some _ q
end

section
variable {X : Cx}
end
end L2
set_option Elab.async false
set_option linter.all false
set_option maxRecDepth 100000
namespace L2
open PySem PySem.Spec PyProof.Rows

def tab (L : Bool) (ns : List Nat) : SetTable := { mask := 7, place := ns.toArray, dummies := #[], finger := 0, led := L, moves := 0, plain := true }
def elts (l : List (Nat × Tok)) : Array (Int × Value) := (l.map fun p => ((p.1 : Int), Value.int (p.1 : Int) p.2)).toArray
theorem ft1 : ∀ (L : Bool) (k : Fin 8), (tab L [k.val]).fits 1 = true := by decide
theorem ft2 : ∀ (L : Bool) (k j : Fin 8), (tab L [k.val, j.val]).fits 2 = true := by decide +kernel
def SX (L : Bool) (h : Heap) (a : Addr) (l : List (Nat × Tok)) : Prop := ∃ o ep, h.get? a = some o ∧ o.ExactSet ∧ o.data = .set (elts l) ep (tab L (l.map (·.1)))
section
variable {prog : Program} {w : World} {A : Around} {E : Value → Shared → Prop} {s : Shared} {L : Bool} {a : Addr}
end
end L2
set_option Elab.async false
set_option linter.all false
set_option maxRecDepth 100000
namespace L2
open PySem PySem.Spec PyProof.Rows
section
variable {prog : Program} {w : World} {A : Around} {E : Value → Shared → Prop} {s : Shared}
abbrev Led (w : World) : Bool := !(w.params.followText "set-order")
theorem code_set_new_L (a : Value) {Q₁ : Value → Shared → Prop}
    (h : Q₁ (.ref s.heap.objs.size) { s with heap := s.heap.push { cls := .type "set", dict := none, data := .set #[] 0 (.fresh 0 0 (Led w)) } }) :
    codeAny (model prog w) A (.call (.builtin "set.__new__") ⟨[.type "set", a], []⟩) (wants Q₁ E) s := by
  refine codeAny_of_tree ?_
  show wpAny _ A.in1 (do checkBuiltinCall "set.__new__" ⟨[.type "set", a], []⟩; again (.builtin "set.__new__" ⟨[.type "set", a], []⟩)) _ _ s
  refine wpAny_bind (wpAny_of_eq (PySem.F.newCall_set_1 a) (wpAny_pure ⟨plainId_quiet PySem.F.plain_set_new _, codeAny_builtin PySem.F.entry_set_new ?_⟩))
  rw [Around.under_plainId PySem.F.plain_set_new _]
  unfold Builtin.«set.__new__» Builtin.Frozenset.newClass
  have hsub := sub_set_self
  obtain ⟨hp, g, d, tk, os⟩ := s
  dsimp only
  wp_walk
  refine wpAny_askSetting (wpAny_pure ?_)
  dsimp only
  simp only [newObj]
  refine wpAny_bind (wpAny_alloc (wpAny_pure ?_))
  exact wpAny_pure h
theorem upd_step {I S : Addr} {fp wr : List Addr} {n i : Nat} {P : Nat → Value → Prop} {St : Nat → Heap → Prop} {R : Result → Shared → Prop} (W : Walks prog w A.in1 I fp wr n P St) (hi : i < n) (st : St i s.heap)
    (h : ∀ v h' tk, P i v → St (i + 1) h' → (∀ b o, b ∉ wr → s.heap.get? b = some o → h'.get? b = some o) →
      wpAny (model prog w) A.in1 (setAdd S v) (fun _ s2 => codeAny (model prog w) A (.builtin "set.update.loop" ⟨[.ref S, .ref I], []⟩) R s2) (fun e s' => R (.error e) s') { s with heap := h', toks := tk }) :
    codeAny (model prog w) A (.builtin "set.update.loop" ⟨[.ref S, .ref I], []⟩) R s := by
  refine codeAny_builtin PyProof.Rows.F.entry_set_update_loop ?_
  rw [Around.under_plainId PyProof.Rows.F.plain_set_update_loop _]
  show wpAny _ A.in1 (pyNext (.ref I) >>= _) _ _ s
  refine wpAny_bind (W.item i s _ _ hi st fun v h' tk hP hst' hk => ?_)
  show wpAny _ A.in1 (holding [v] (setAdd S v) >>= _) _ _ _
  refine wpAny_bind (wpAny_holding (wpAny_mono (h v h' tk hP hst' hk) (fun _ s2 q => ?_) fun _ _ e => e))
  exact wpAny_pure ⟨plainId_quiet PyProof.Rows.F.plain_set_update_loop _, q⟩
theorem upd_done {I S : Addr} {fp wr : List Addr} {n : Nat} {P : Nat → Value → Prop} {St : Nat → Heap → Prop} {R : Result → Shared → Prop} (W : Walks prog w A.in1 I fp wr n P St) (st : St n s.heap)
    (h : ∀ h' tk, (∀ b o, b ∉ wr → s.heap.get? b = some o → h'.get? b = some o) → R (.ok (.ret .none)) { s with heap := h', toks := tk }) :
    codeAny (model prog w) A (.builtin "set.update.loop" ⟨[.ref S, .ref I], []⟩) R s := by
  refine codeAny_builtin PyProof.Rows.F.entry_set_update_loop ?_
  rw [Around.under_plainId PyProof.Rows.F.plain_set_update_loop _]
  show wpAny _ A.in1 (pyNext (.ref I) >>= _) _ _ s
  refine wpAny_bind (W.done s _ _ st fun h' tk hk => ?_)
  show wpAny _ A.in1 (ret Value.none) _ _ _
  exact wpAny_pure (h h' tk hk)
def two (a b : Nat) (t u : Tok) : List (Nat × Tok) := if a = b then [(a, t)] else if a < b then [(a, t), (b, u)] else [(b, u), (a, t)]
theorem SX.keep {L : Bool} {h h' : Heap} {a : Addr} {l : List (Nat × Tok)} (x : SX L h a l) (k : ∀ o, h.get? a = some o → h'.get? a = some o) : SX L h' a l := by
  obtain ⟨o, ep, e, r⟩ := x
  exact ⟨o, ep, k o e, r⟩
end
end L2
set_option Elab.async false
set_option linter.all false
set_option maxRecDepth 100000
namespace L2
open PySem PySem.Spec PyProof.Rows
theorem slot_set_iterator_next : Slot "set_iterator" "__next__" "set_iterator.__next__" :=
  .of (owner := "set_iterator") (n := "__next__") (by rw [typeLookup_type, builtinLookup_eq_fast]; kernel_rfl) (by decide +kernel) (by decide +kernel) (by decide +kernel)
    (by first | exact .inl (by decide +kernel) | exact .inr (by decide +kernel)) (by rw [isSubtype_type]; kernel_rfl)
theorem entry_set_iterator_next : entryFor table "set_iterator.__next__" = some Builtin.«set_iterator.__next__» := entryFor_of_tree (by kernel_rfl)
theorem args_set_iterator_next_1 (a : Value) : argsOk "set_iterator.__next__" ⟨[a], []⟩ := by
  unfold argsOk; kernel_rfl
theorem slot_set_iterator_iter : Slot "set_iterator" "__iter__" "set_iterator.__iter__" :=
  .of (owner := "set_iterator") (n := "__iter__") (by rw [typeLookup_type, builtinLookup_eq_fast]; kernel_rfl) (by decide +kernel) (by decide +kernel) (by decide +kernel)
    (by first | exact .inl (by decide +kernel) | exact .inr (by decide +kernel)) (by rw [isSubtype_type]; kernel_rfl)
theorem entry_set_iterator_iter : entryFor table "set_iterator.__iter__" = some Builtin.«dict_keyiterator.__iter__» :=
  entryFor_alias (id' := "dict_keyiterator.__iter__") (by kernel_rfl) rfl (by decide +kernel) (by kernel_rfl)
theorem args_set_iterator_iter_1 (a : Value) : argsOk "set_iterator.__iter__" ⟨[a], []⟩ := by
  unfold argsOk; kernel_rfl
theorem entry_set_iter : entryFor table "set.__iter__" = some Builtin.«frozenset.__iter__» :=
  entryFor_alias (id' := "frozenset.__iter__") (by kernel_rfl) rfl (by decide +kernel) (by kernel_rfl)

def Okl (l : List (Nat × Tok)) : Prop := (∃ p, l = [p] ∧ p.1 < 8) ∨ ∃ p q, l = [p, q] ∧ p.1 < q.1 ∧ q.1 < 8
theorem Okl.fits {L : Bool} {l : List (Nat × Tok)} (h : Okl l) : (tab L (l.map (·.1))).fits (elts l).size = true := by
  rcases h with ⟨p, rfl, h8⟩ | ⟨p, q, rfl, h1, h8⟩
  · exact ft1 L ⟨p.1, h8⟩
  · exact ft2 L ⟨p.1, by omega⟩ ⟨q.1, h8⟩
section
variable {prog : Program} {w : World} {A : Around} {E : Value → Shared → Prop} {s : Shared} {S : Addr} {o : Obj} {ep : Nat} {l : List (Nat × Tok)}
theorem wp_byText {Q : Bool → Shared → Prop} (h : Q (w.params.followText "set-order") s) : wpAny (model prog w) A setsByText Q E s := wpAny_bind (wpAny_askSetting (wpAny_pure h))
end
end L2
set_option Elab.async false
set_option linter.all false
set_option maxRecDepth 100000
namespace L2
open PySem PySem.Spec PyProof.Rows
section
variable {prog : Program} {w : World} {A : Around} {E : Value → Shared → Prop} {s : Shared} {S : Addr} {o : Obj} {ep : Nat} {l : List (Nat × Tok)}
end
end L2
set_option Elab.async false
set_option linter.all false
set_option maxRecDepth 100000
namespace L2
open PySem PySem.Spec PyProof.Rows
def SetO (w : World) (p : Addr) (a b : Nat) : HO := .ext fun h => ∃ t u, SX (Led w) h p (two a b t u)
section
variable {X : Cx}
end
end L2
set_option Elab.async false
set_option linter.all false
set_option maxRecDepth 100000
namespace L2
open PySem PySem.Spec PyProof.Rows

structure Sub (prog : Program) (w : World) (i l : Addr) (n : Nat) (P : Nat → Value → Prop) (st : Nat → Heap → Prop) : Prop where
  keep : ∀ k h h', st k h → (∀ b, b = i ∨ b = l → ∀ o, h.get? b = some o → h'.get? b = some o) → st k h'
  obj : ∀ k h, st k h → (∃ o, h.get? i = some o ∧ ∀ v, o.data ≠ .cell v) ∧ ∃ o, h.get? l = some o
  item : ∀ (A : Around) k (s : Shared) (Q : Value → Shared → Prop) (E : Value → Shared → Prop), k < n → st k s.heap → (∀ v h', P k v → st (k + 1) h' → Heap.SameBut i s.heap h' → Q v { s with heap := h' }) → wpAny (model prog w) A (Builtin.SmallTypes.nextOf (.ref i)) Q E s
  done : ∀ (A : Around) (s : Shared) (Q : Value → Shared → Prop) (E : Value → Shared → Prop), A.handled = none → st n s.heap → (∀ h' e, Heap.ExtBut i s.heap h' → (∃ o, h'.get? e = some o ∧ o.cls = .type "StopIteration") → E (.ref e) { s with heap := h' }) →
    wpAny (model prog w) A (Builtin.SmallTypes.nextOf (.ref i)) Q E s
section
variable {prog : Program} {w : World} {A : Around} {E : Value → Shared → Prop} {s : Shared} {z TI TO i1 i2 l1 l2 : Addr} {n1 n2 : Nat} {P1 P2 : Nat → Value → Prop} {st1 st2 : Nat → Heap → Prop}
end
end L2
set_option Elab.async false
set_option linter.all false
set_option maxRecDepth 100000
namespace L2
open PySem PySem.Spec PyProof.Rows
inductive Sk where
  | l | t
def AtK (k : Sk) (h : Heap) (a : Addr) (its : Array Value) : Prop := match k with | .l => h.IsList a its | .t => h.IsTuple a its
def ItK (k : Sk) (h : Heap) (i a : Addr) (n : Nat) : Prop := match k with | .l => h.IsListIter i a n | .t => h.IsTupleIter i a n
def itK (k : Sk) (a : Addr) : Obj := match k with | .l => { cls := .type "list_iterator", data := .fields #[.ref a, .int 0 0] } | .t => { cls := .type "tuple_iterator", data := .fields #[.ref a, .int 0 0] }
theorem ItK.new (k : Sk) (h : Heap) (a : Addr) : ItK k (h.push (itK k a)) h.objs.size a 0 := by
  cases k
  · exact ⟨_, Heap.get?_push_size _ rfl, rfl, rfl⟩
  · exact ⟨_, Heap.get?_push_size _ rfl, rfl, rfl⟩
theorem ItK.obj {k : Sk} {h : Heap} {i a : Addr} {n : Nat} (x : ItK k h i a n) : ∃ o, h.get? i = some o ∧ ∀ v, o.data ≠ .cell v := by
  cases k
  · obtain ⟨o, e, _, d⟩ := x; exact ⟨o, e, fun v z => by rw [d] at z; cases z⟩
  · obtain ⟨o, e, _, d⟩ := x; exact ⟨o, e, fun v z => by rw [d] at z; cases z⟩
theorem ItK.at {k : Sk} {h h' : Heap} {i a : Addr} {n : Nat} (x : ItK k h i a n) (kp : ∀ o, h.get? i = some o → h'.get? i = some o) : ItK k h' i a n := by
  cases k
  · exact Heap.IsListIter.at x kp
  · exact Heap.IsTupleIter.at x kp
theorem AtK.at {k : Sk} {h h' : Heap} {a : Addr} {its : Array Value} (x : AtK k h a its) (kp : ∀ o, h.get? a = some o → h'.get? a = some o) : AtK k h' a its := by
  cases k
  · exact Heap.IsList.at x kp
  · obtain ⟨o, e, r⟩ := x; exact ⟨o, kp o e, r⟩
section
variable {X : Cx} {pins : List (Addr × Obj)} {σ : St} {H : Hp} {s : Shared}
end

section
variable {X : Cx} {es : List Expr} {x1 : Nat} {tpos : Pos}
end
end L2
set_option Elab.async false
set_option linter.all false
set_option maxRecDepth 100000
namespace L2
open PySem PySem.Spec PyProof.Rows
open PySem.AutoSeq1 (wpAny_loadPart')
theorem tuple_add_nil (l b : Addr) (items items2 : Array Value) (n n2 : Nat) (dd dd2 : Option Addr) (sl sl2 : Array (Option Value)) (hc0 : items.isEmpty = true) :
    Meets (Builtin.«tuple.__add__» ⟨[.ref l, .ref b], []⟩) (fun _ R s => s.heap.get? l = some { cls := .type "tuple", dict := dd, data := .seq items n, slots := sl } ∧ s.heap.get? b = some { cls := .type "tuple", dict := dd2, data := .seq items2 n2, slots := sl2 } ∧ R (.ok (.ret (Value.ref b))) s) :=
  .of_wp fun prog w A R s h => by
    obtain ⟨hp, g, d, tk, os⟩ := s
    obtain ⟨hl, hb, h⟩ := h
    have f1 := AutoSeq1.idx_int
    have f2 := AutoSeq1.sub_tuple_tuple
    wp_walk using wpAny_loadPart' hl, wpAny_loadPart' hb
    exact ⟨_, rfl, h⟩
section
variable {X : Cx}
theorem op_cat2 : OpR X (binaryOp .Add) (fun x y H Q => ∃ a b xs ys, x = .ref a ∧ y = .ref b ∧ SqT X.K H a xs ∧ SqT X.K H b ys ∧ xs.length + ys.length ≤ sizeLine ∧ ∀ p H', Same H H' → SqT X.K H' p (xs ++ ys) → Q (.ref p) H') := by
  intro pins s σ H x y v u Q I rx ry h
  obtain ⟨a, b, xs, ys, rfl, rfl, ha, hb, hz, q⟩ := h
  by_cases hx : xs = []
  · subst hx
    cases rx
    cases ry
    obtain ⟨its, r1, ⟨⟨cls, dd, data, sl⟩, ho, hc, n, hd⟩, _⟩ := I.tuple ha
    obtain ⟨its2, r2, ⟨⟨cls2, dd2, data2, sl2⟩, ho2, hc2, n2, hd2⟩, _⟩ := I.tuple hb
    simp only at hc hd hc2 hd2
    subst hc hd hc2 hd2
    cases r1
    exact concat_meets ⟨_, ho, rfl⟩ ⟨_, ho2, rfl⟩ noFill_tuple_add seq_tuple_add PySem.F.slot_tuple_add PySem.F.entry_tuple_add (PySem.F.args_tuple_add_2 _ _)
      (tuple_add_nil a b _ _ n n2 dd dd2 sl sl2 rfl) ⟨ho, ho2, ⟨.ref b, H, I, rfl, q b H (Same.refl H) hb⟩⟩
  · refine op_catT pins s σ H _ _ v u Q I rx ry ⟨a, b, xs, ys, rfl, rfl, ha, hb, hx, hz, fun e => ?_, fun e p hp => ?_⟩
    · subst e
      exact q a H (Same.refl H) (by rw [List.append_nil]; exact ha)
    · exact q p _ (Same.new hp) (SqT.of upd_same)
theorem getItem_tuple_whole {prog : Program} {w : World} {A : Around} {E : Value → Shared → Prop} {s : Shared} {t sl : Addr} {items : Array Value} {vl vu : Value} {lo hi : Option Int} {Q : Value → Shared → Prop} (ht : IsTup s.heap t items) (hs : s.heap.IsSliceOf sl vl vu .none) (pl : IsPart vl lo) (pu : IsPart vu hi)
    (hw : HT.sIx items.size 0 lo = 0 ∧ HT.sIx items.size items.size hi = items.size) (h : Q (.ref t) s) : wpAny (model prog w) A (getItem (.ref t) (.ref sl)) Q E s := by
  obtain ⟨os, hos, hcs, hds⟩ := id hs
  have hTs : s.TypeIs (.ref sl) "slice" := ⟨os, hos, hcs⟩
  unfold getItem
  try with_reducible refine wpAny_holding ?_
  first | refine wpAny_bind (wpAny_pure ?_) | skip
  refine wpAny_bind (wpAny_sequenceKey ht.typeIs (by decide) ?_)
  refine wpAny_bind (wpAny_callSpecial?_slot (name := Str.ofString "__getitem__") ht.typeIs PyProof.Rows.slot_tuple_getitem
    (wpAny_call_entry PyProof.Rows.slot_tuple_getitem ht.typeIs entry_tuple_getitem ?_ (args_tuple_getitem _ _)))
  refine wpAny_bind (m := Builtin.Tuple.tupleItemsOf (.ref t)) (tupleItemsOf_ ht ?_)
  refine wpAny_bind (wpAny_typeOf hTs ?_)
  rw [if_pos (by decide)]
  refine wpAny_bind (HT.sliceApplied_gen hs pl pu ?_)
  have hyes : (((HT.sIx items.size 0 lo : Nat) : Int) == 0 && (1 : Int) == 1 && (HT.sIx items.size items.size hi - HT.sIx items.size 0 lo) == items.size) = true := by
    rw [hw.1, hw.2]; simp
  show wpAny _ _ (if (((HT.sIx items.size 0 lo : Nat) : Int) == 0 && (1 : Int) == 1 && (HT.sIx items.size items.size hi - HT.sIx items.size 0 lo) == items.size) = true then _ else _) _ _ s
  rw [if_pos hyes]
  unfold Builtin.Tuple.tupleIsExact
  refine wpAny_bind (wpAny_bind (wpAny_typeOf ht.typeIs (wpAny_pure ?_)))
  refine wpAny_ite_split (fun _ => wpAny_bind (wpAny_rule (wpAny_pure ⟨_, rfl, wpAny_pure h⟩))) (fun hab => absurd (by rfl) hab)
theorem sl_tup2 : SlR X (fun x lo hi H Q => ∃ a xs, x = .ref a ∧ SqT X.K H a xs ∧ ∀ p H', Same H H' → SqT X.K H' p (cutV xs lo hi) → Q (.ref p) H') := by
  intro pins s σ H x v vl vu lo hi sl Q I rx hs pl pu h
  obtain ⟨a, xs, rfl, hx, q⟩ := h
  by_cases hw : HT.sIx xs.length 0 lo = 0 ∧ HT.sIx xs.length xs.length hi = xs.length
  · cases rx
    obtain ⟨its, r, ht, hz⟩ := I.tuple hx
    have hlen : its.toArray.size = xs.length := by rw [List.size_toArray]; exact r.length.symm
    refine ⟨"tuple", _, PyProof.Rows.slot_tuple_getitem.lookup, ht.typeIs, ?_⟩
    refine getItem_tuple_whole ht hs pl pu (by rw [hlen]; exact hw) ⟨.ref a, H, I, rfl, q a H (Same.refl H) ?_⟩
    have e : cutV xs lo hi = xs := by
      unfold cutV
      rw [hw.1, hw.2, List.drop_zero, Nat.sub_zero, List.take_length]
    rw [e]; exact hx
  · exact sl_tup pins s σ H _ v vl vu lo hi sl Q I rx hs pl pu ⟨a, xs, rfl, hx, hw, fun p hp => q p _ (Same.new hp) (SqT.of upd_same)⟩
end
end L2
set_option Elab.async false
set_option linter.all false
set_option maxRecDepth 100000
namespace L2
open PySem PySem.Spec PyProof.Rows
def ixCheck (N frn : List Str) (fr : List Nat) : Bool := frn.length == fr.length && (frn.zip fr).all fun y => N[y.2]? == some y.1
theorem compOk_of {X : Cx} {scope : Scope} {own frn : List Str} {fr : List Nat} (sc : Scope) (N : List Str) (h1 : X.env.scope = sc) (h2 : X.N = N) (h : (compCheck sc scope own frn && ixCheck N frn fr) = true) : CompOk X scope own fr frn := by
  rw [Bool.and_eq_true] at h
  obtain ⟨ha, hb⟩ := h
  unfold ixCheck at hb
  simp only [Bool.and_eq_true, beq_iff_eq, List.all_eq_true] at hb
  refine ⟨by rw [h1]; exact ha, fun k x hk => ?_, hb.1.symm⟩
  have hlt : k < fr.length := by rw [← hb.1]; exact (List.getElem?_eq_some_iff.mp hk).1
  refine ⟨fr[k], List.getElem?_eq_getElem hlt, ?_⟩
  have hm : (x, fr[k]) ∈ frn.zip fr := by
    refine List.mem_of_getElem? (i := k) ?_
    rw [List.getElem?_zip_eq_some]
    exact ⟨hk, List.getElem?_eq_getElem hlt⟩
  rw [h2]
  exact hb.2 _ hm
section
variable {J : It} {own : Nat} {fr : List Nat} {g : TG} {tt : TT} {te : TE} {σ : St} {H : Hp} {Q : Hp → List V → Prop}
theorem comp_it (n : Nat) (hn : n ≤ sizeLine) (SH : St → Prop) (Pv : Nat → List V → Hp → Prop) (hσ : SH (blk own fr σ)) (h0 : Pv 0 [] H) (hlen : ∀ i ys H, Pv i ys H → ys.length ≤ i)
    (hstop : ∀ ys H, Pv n ys H → J.stop n H) (hgo : ∀ i ys H, i < n → Pv i ys H → J.go i H)
    (hs : ∀ i ys σ x H H', i < n → SH σ → Pv i ys H → J.yld i H x H' → ys.length < sizeLine → g x σ H' fun σ2 H2 => tt σ2 H2 fun b H3 => if b = true then te σ2 H3 fun y H4 => ys.length < sizeLine ∧ SH σ2 ∧ Pv (i + 1) (ys ++ [y]) H4 else SH σ2 ∧ Pv (i + 1) ys H3)
    (hd : ∀ ys H, Pv n ys H → Q H ys) :
    ∃ W : Nat → Nat → List V → St → Hp → Prop, (∃ m, W 0 m [] (blk own fr σ) H) ∧ ∀ i m ys σ' H, W i m ys σ' H →
      (J.stop i H ∧ Q H ys) ∨
      (J.go i H ∧ ∃ N : List V → St → Hp → Prop, (∀ ys' σ2 H2, N ys' σ2 H2 → ∃ m', m' < m ∧ W (i + 1) m' ys' σ2 H2) ∧
        ∀ x H', J.yld i H x H' → g x σ' H' fun σ2 H2 => tt σ2 H2 fun b H3 => if b = true then te σ2 H3 fun y H4 => ys.length < sizeLine ∧ N (ys ++ [y]) σ2 H4 else N ys σ2 H3) := by
  refine ⟨fun i m ys σ' H => m = n - i ∧ i ≤ n ∧ SH σ' ∧ Pv i ys H, ⟨n, by simp, Nat.zero_le _, hσ, h0⟩, ?_⟩
  rintro i m ys σ' H ⟨rfl, hi, sh, p⟩
  by_cases hlt : i < n
  · refine .inr ⟨hgo i ys H hlt p, fun ys' σ2 H2 => SH σ2 ∧ Pv (i + 1) ys' H2, fun ys' σ2 H2 ⟨e, q⟩ => ⟨n - (i + 1), by omega, rfl, hlt, e, q⟩, fun x H' y => ?_⟩
    exact hs i ys σ' x H H' hlt sh p y (by have := hlen i ys H p; omega)
  · have e : i = n := by omega
    subst e
    exact .inl ⟨hstop ys H p, hd ys H p⟩
theorem comp_tup {K : PySem.W.Frag} {a : Addr} {xs : List V} (SH : St → Prop) (Pv : Nat → List V → Hp → Prop) (hn : xs.length ≤ sizeLine) (hσ : SH (blk own fr σ)) (h0 : Pv 0 [] H) (hlen : ∀ i ys H, Pv i ys H → ys.length ≤ i) (hl : ∀ i ys H, Pv i ys H → SqT K H a xs)
    (hs : ∀ i ys σ x H, xs[i]? = some x → SH σ → Pv i ys H → ys.length < sizeLine → g x σ H fun σ2 H2 => tt σ2 H2 fun b H3 => if b = true then te σ2 H3 fun y H4 => ys.length < sizeLine ∧ SH σ2 ∧ Pv (i + 1) (ys ++ [y]) H4 else SH σ2 ∧ Pv (i + 1) ys H3)
    (hd : ∀ ys H, Pv xs.length ys H → Q H ys) :
    ∃ W : Nat → Nat → List V → St → Hp → Prop, (∃ m, W 0 m [] (blk own fr σ) H) ∧ ∀ i m ys σ' H, W i m ys σ' H →
      ((Itt K a).stop i H ∧ Q H ys) ∨
      ((Itt K a).go i H ∧ ∃ N : List V → St → Hp → Prop, (∀ ys' σ2 H2, N ys' σ2 H2 → ∃ m', m' < m ∧ W (i + 1) m' ys' σ2 H2) ∧
        ∀ x H', (Itt K a).yld i H x H' → g x σ' H' fun σ2 H2 => tt σ2 H2 fun b H3 => if b = true then te σ2 H3 fun y H4 => ys.length < sizeLine ∧ N (ys ++ [y]) σ2 H4 else N ys σ2 H3) := by
  refine comp_it xs.length hn SH Pv hσ h0 hlen (fun ys H p => ⟨xs, hl _ _ _ p, Nat.le_refl _⟩) (fun i ys H hi p => ⟨xs, xs[i], hl _ _ _ p, List.getElem?_eq_getElem hi⟩) (fun i ys σ x H H' hi sh p y hz => ?_) hd
  obtain ⟨e, y⟩ := y
  subst e
  exact hs i ys σ x _ (y xs (hl _ _ _ p)) sh p hz
theorem comp_list {K : PySem.W.Frag} {a : Addr} {xs : List V} (SH : St → Prop) (Pv : Nat → List V → Hp → Prop) (hn : xs.length ≤ sizeLine) (hσ : SH (blk own fr σ)) (h0 : Pv 0 [] H) (hlen : ∀ i ys H, Pv i ys H → ys.length ≤ i) (hl : ∀ i ys H, Pv i ys H → SqL K H a xs)
    (hs : ∀ i ys σ x H, xs[i]? = some x → SH σ → Pv i ys H → ys.length < sizeLine → g x σ H fun σ2 H2 => tt σ2 H2 fun b H3 => if b = true then te σ2 H3 fun y H4 => ys.length < sizeLine ∧ SH σ2 ∧ Pv (i + 1) (ys ++ [y]) H4 else SH σ2 ∧ Pv (i + 1) ys H3)
    (hd : ∀ ys H, Pv xs.length ys H → Q H ys) :
    ∃ W : Nat → Nat → List V → St → Hp → Prop, (∃ m, W 0 m [] (blk own fr σ) H) ∧ ∀ i m ys σ' H, W i m ys σ' H →
      ((Itl K a).stop i H ∧ Q H ys) ∨
      ((Itl K a).go i H ∧ ∃ N : List V → St → Hp → Prop, (∀ ys' σ2 H2, N ys' σ2 H2 → ∃ m', m' < m ∧ W (i + 1) m' ys' σ2 H2) ∧
        ∀ x H', (Itl K a).yld i H x H' → g x σ' H' fun σ2 H2 => tt σ2 H2 fun b H3 => if b = true then te σ2 H3 fun y H4 => ys.length < sizeLine ∧ N (ys ++ [y]) σ2 H4 else N ys σ2 H3) := by
  refine comp_it xs.length hn SH Pv hσ h0 hlen (fun ys H p => ⟨xs, hl _ _ _ p, Nat.le_refl _⟩) (fun i ys H hi p => ⟨xs, xs[i], hl _ _ _ p, List.getElem?_eq_getElem hi⟩) (fun i ys σ x H H' hi sh p y hz => ?_) hd
  obtain ⟨e, y⟩ := y
  subst e
  exact hs i ys σ x _ (y xs (hl _ _ _ p)) sh p hz
theorem comp_range {lo : Int} {n : Nat} (SH : St → Prop) (Pv : Nat → List V → Hp → Prop) (hn : n ≤ sizeLine) (hσ : SH (blk own fr σ)) (h0 : Pv 0 [] H) (hlen : ∀ i ys H, Pv i ys H → ys.length ≤ i)
    (hs : ∀ i ys σ H, i < n → SH σ → Pv i ys H → ys.length < sizeLine → g (.int (lo + i)) σ H fun σ2 H2 => tt σ2 H2 fun b H3 => if b = true then te σ2 H3 fun y H4 => ys.length < sizeLine ∧ SH σ2 ∧ Pv (i + 1) (ys ++ [y]) H4 else SH σ2 ∧ Pv (i + 1) ys H3)
    (hd : ∀ ys H, Pv n ys H → Q H ys) :
    ∃ W : Nat → Nat → List V → St → Hp → Prop, (∃ m, W 0 m [] (blk own fr σ) H) ∧ ∀ i m ys σ' H, W i m ys σ' H →
      ((Itr lo n).stop i H ∧ Q H ys) ∨
      ((Itr lo n).go i H ∧ ∃ N : List V → St → Hp → Prop, (∀ ys' σ2 H2, N ys' σ2 H2 → ∃ m', m' < m ∧ W (i + 1) m' ys' σ2 H2) ∧
        ∀ x H', (Itr lo n).yld i H x H' → g x σ' H' fun σ2 H2 => tt σ2 H2 fun b H3 => if b = true then te σ2 H3 fun y H4 => ys.length < sizeLine ∧ N (ys ++ [y]) σ2 H4 else N ys σ2 H3) := by
  refine comp_it n hn SH Pv hσ h0 hlen (fun ys H p => Nat.le_refl _) (fun i ys H hi p => hi) (fun i ys σ x H H' hi sh p y hz => ?_) hd
  obtain ⟨e, y⟩ := y
  subst e y
  exact hs i ys σ _ hi sh p hz
end
end L2
set_option Elab.async false
set_option linter.all false
set_option maxRecDepth 100000
namespace L2
open PySem PySem.Spec PyProof.Rows
section
variable {X : Cx}
theorem Inv.big0 {pins : List (Addr × Obj)} {σ : St} {H : Hp} {s : Shared} (I : Inv X pins σ H s) : sysModules < s.heap.objs.size := by
  have h : mainGlobals < s.heap.objs.size := (I.mod.glob.keeps I.bk).lt
  exact Nat.lt_trans (by decide) h
theorem dk_none {P : Program} {w : World} {H : Hp} (h : Heap) (hb : sysModules < h.objs.size) : ObjOk P w H (h.push { cls := .type "dict", data := .dict #[] }) h.objs.size (.dK []) :=
  ⟨Nat.zero_le _, beq_eq_false_iff_ne.mpr (Ne.symm (Nat.ne_of_lt hb)), [], .nil, Heap.DictOf.new h⟩
def tDict0 : TE := fun _ H Q => ∀ p, H p = none → Q (.ref p) (upd H p (.dK []))
theorem pe_dict0 {pos : Pos} : PE X (.Dict [] [] pos) tDict0 := fun pins s σ H Q I h =>
  wpAny_Dict_empty ⟨.ref s.heap.objs.size, _, I.laid (a := s.heap.objs.size) (o := .dK []) (t' := s.toks) (fun _ _ q => Heap.get?_push_of_some _ q) (Nat.le_refl _) (dk_none s.heap I.big0), rfl, h _ (I.hok.fresh (Nat.le_refl _))⟩
end
end L2
set_option Elab.async false
set_option linter.all false
set_option maxRecDepth 100000
namespace L2
open PySem PySem.Spec PyProof.Rows
def Vw (S : List Addr) (H : Hp) : Hp := fun b => if b ∈ S then none else H b
theorem Vw.out {S : List Addr} {H : Hp} {b : Addr} (n : b ∉ S) : Vw S H b = H b := by unfold Vw; rw [if_neg n]
theorem Vw.sub {S : List Addr} {H : Hp} : Same (Vw S H) H := fun b o h => by
  by_cases z : b ∈ S
  · unfold Vw at h; rw [if_pos z] at h; cases h
  · rw [Vw.out z] at h; exact h
theorem Vw.keep {S : List Addr} {H H' : Hp} (e : ∀ b o, b ∉ S → H b = some o → H' b = some o) : Same (Vw S H) (Vw S H') := fun b o h => by
  by_cases z : b ∈ S
  · unfold Vw at h; rw [if_pos z] at h; cases h
  · rw [Vw.out z] at h ⊢; exact e b o z h
theorem Vw.same {S : List Addr} {H H' : Hp} (e : Same H H') : Same (Vw S H) (Vw S H') := Vw.keep fun b o _ h => e b o h
def Fx (S : List Addr) (H : Hp) : Prop := ∀ b ∈ S, ∃ xs, H b = some (.lst xs)
theorem Fx.same {S : List Addr} {H H' : Hp} (f : Fx S H) (e : Same H H') : Fx S H' := fun b hb => let ⟨xs, h⟩ := f b hb; ⟨xs, e b _ h⟩
theorem Fx.new {S : List Addr} {H : Hp} {p : Addr} (f : Fx S H) (h : H p = none) : p ∉ S := fun z => by
  obtain ⟨xs, q⟩ := f p z
  rw [q] at h; cases h
theorem Fx.nil {H : Hp} : Fx [] H := fun _ h => (List.not_mem_nil h).elim
section
variable {K : PySem.W.Frag} {S : List Addr} {H H' H0 : Hp}
theorem Fx.seqT {a : Addr} {xs : List V} (f : Fx S H) (h : SqT K H a xs) : SqT K (Vw S H) a xs := by
  rcases h with (h | ⟨o, h⟩) | h
  · exact .inl (.inl (by rw [Vw.out fun z => by obtain ⟨ys, q⟩ := f a z; rw [q] at h; cases h]; exact h))
  · exact .inl (.inr ⟨o, by rw [Vw.out fun z => by obtain ⟨ys, q⟩ := f a z; rw [q] at h; cases h]; exact h⟩)
  · exact .inr h
theorem Vw.at {p : Addr} {o : HO} (f : Fx S H) (h : H p = none) : Vw S (upd H p o) p = some o := by rw [Vw.out (f.new h)]; exact upd_same
def Dn (K : PySem.W.Frag) (S : List Addr) (H : Hp) (x : V) : Prop := ∃ d, Den K (Vw S H) d x
def DT (K : PySem.W.Frag) (S : List Addr) (n : Nat) (H : Hp) (x : V) : Prop := ∃ a xs, x = .ref a ∧ SqT K (Vw S H) a xs ∧ xs.length ≤ n ∧ ∀ y ∈ xs, Dn K S H y
def II (_ : Hp) (x : V) : Prop := ∃ i, x = .int i
class Mo (R : Hp → V → Prop) : Prop where
  mo : ∀ {H H' : Hp} {v : V}, Same H H' → R H v → R H' v
theorem Dn.keep {x : V} (h : Dn K S H x) (e : Same (Vw S H) (Vw S H')) : Dn K S H' x := let ⟨d, h⟩ := h; ⟨d, e.den _ _ h⟩
theorem Dn.same {x : V} (h : Dn K S H x) (e : Same H H') : Dn K S H' x := h.keep (Vw.same e)
theorem DT.keep {n : Nat} {x : V} (h : DT K S n H x) (e : Same (Vw S H) (Vw S H')) : DT K S n H' x := let ⟨a, xs, h1, h2, h3, h4⟩ := h; ⟨a, xs, h1, e.seqT h2, h3, fun y hy => (h4 y hy).keep e⟩
theorem DT.same {n : Nat} {x : V} (h : DT K S n H x) (e : Same H H') : DT K S n H' x := h.keep (Vw.same e)
instance : Mo (Dn K S) := ⟨fun e h => Dn.same h e⟩
instance {n : Nat} : Mo (DT K S n) := ⟨fun e h => DT.same h e⟩
instance : Mo II := ⟨fun _ h => h⟩
theorem dn_int (i : Int) : Dn K S H (.int i) := ⟨.int i, den_int.mpr rfl⟩
theorem II.dn {x : V} (h : II H x) : Dn K S H x := let ⟨i, h⟩ := h; h ▸ dn_int i
theorem dn_all : ∀ {xs : List V}, (∀ x ∈ xs, Dn K S H x) → ∃ ds, DenAll K (Vw S H) ds xs
  | [], _ => ⟨[], denAll_nil.mpr rfl⟩
  | x :: r, h => by
    obtain ⟨d, hd⟩ := h x (List.mem_cons_self ..)
    obtain ⟨ds, hds⟩ := dn_all (xs := r) fun y hy => h y (List.mem_cons_of_mem _ hy)
    exact ⟨d :: ds, denAll_cons.mpr ⟨x, r, rfl, hd, hds⟩⟩
theorem DT.dn {n : Nat} {x : V} (h : DT K S n H x) : Dn K S H x := by
  obtain ⟨a, xs, rfl, h2, _, h4⟩ := h
  obtain ⟨ds, hds⟩ := dn_all h4
  exact ⟨.tuple ds, den_tuple.mpr ⟨a, xs, rfl, h2, hds⟩⟩
theorem dn_ints {l : List Int} : ∀ x ∈ l.map V.int, Dn K S H x := fun x hx => by
  obtain ⟨i, _, rfl⟩ := List.mem_map.mp hx
  exact dn_int i
theorem DT.ints {a : Addr} {l : List Int} {n : Nat} (f : Fx S H) (h : SqT K H a (l.map V.int)) (hn : l.length ≤ n) : DT K S n H (.ref a) := ⟨a, _, rfl, f.seqT h, by rw [List.length_map]; exact hn, dn_ints⟩
def Al (H0 : Hp) (S : List Addr) (te : TE) (σ : St) (R : Hp → V → Prop) : Prop := ∀ H, Same H0 H → Fx S H → ∀ Q : VK, (∀ v H', Same H H' → R H' v → Q v H') → te σ H Q
variable {σ : St} {R R' : Hp → V → Prop} {te ta tb ts : TE} {t tr : TA} {tl th : TO}
theorem al_var {i : Nat} {v : V} [m : Mo R] (h : σ[i]? = some (some v)) (r : R H0 v) : Al H0 S (tVar i) σ R := fun H s _ Q k => ⟨v, h, k v H (Same.refl H) (m.mo s r)⟩
theorem al_c {v : V} [m : Mo R] (r : R H0 v) : Al H0 S (tC v) σ R := fun H s _ Q k => k v H (Same.refl H) (m.mo s r)
theorem Al.mono (h : Al H0 S te σ R) (m : ∀ H v, R H v → R' H v) : Al H0 S te σ R' := fun H s f Q k => h H s f Q fun v H' s' r => k v H' s' (m H' v r)
theorem Al.i (h : Al H0 S te σ II) : Al H0 S te σ (Dn K S) := h.mono fun _ _ r => r.dn
theorem Al.d {n : Nat} (h : Al H0 S te σ (DT K S n)) : Al H0 S te σ (Dn K S) := h.mono fun _ _ r => r.dn
def rCat2 (K : PySem.W.Frag) : R2 := fun x y H Q => ∃ a b xs ys, x = .ref a ∧ y = .ref b ∧ SqT K H a xs ∧ SqT K H b ys ∧ xs.length + ys.length ≤ sizeLine ∧ ∀ p H', Same H H' → SqT K H' p (xs ++ ys) → Q (.ref p) H'
theorem op_cat2K {X : Cx} (hK : X.K = K) : OpR X (binaryOp .Add) (rCat2 K) := by subst hK; exact op_cat2
def rSl2 (K : PySem.W.Frag) : V → Option Int → Option Int → Hp → VK → Prop := fun x lo hi H Q => ∃ a xs, x = .ref a ∧ SqT K H a xs ∧ ∀ p H', Same H H' → SqT K H' p (cutV xs lo hi) → Q (.ref p) H'
theorem sl_tup2K {X : Cx} (hK : X.K = K) : SlR X (rSl2 K) := by subst hK; exact sl_tup2
def rListOf (K : PySem.W.Frag) : List V → Hp → VK → Prop := fun xs H Q => ∃ p ys, xs = [.ref p] ∧ (SqL K H p ys ∨ SqT K H p ys) ∧ ∀ l, H l = none → Q (.ref l) (upd H l (.lst ys))
theorem call_list_ofK {X : Cx} (hK : X.K = K) : CallR X (.type "list") (rListOf K) := by subst hK; exact call_list_of
theorem cutV_mem {xs : List V} {lo hi : Option Int} {x : V} (h : x ∈ cutV xs lo hi) : x ∈ xs := List.mem_of_mem_drop (List.mem_of_mem_take h)
theorem cutV_len {xs : List V} {lo hi : Option Int} : (cutV xs lo hi).length ≤ xs.length := by
  unfold cutV
  rw [List.length_take, List.length_drop]
  omega
instance {a : Addr} {xs : List V} : Mo (fun H v => v = .ref a ∧ SqT K H a xs) := ⟨fun e h => ⟨h.1, e.seqT h.2⟩⟩
instance {x : V} : Mo (fun _ v => v = x) := ⟨fun _ h => h⟩
end
end L2
set_option Elab.async false
set_option linter.all false
set_option maxRecDepth 100000
namespace L2
open PySem PySem.Spec PyProof.Rows
open PySem.AutoSeq1 (wpAny_loadPart')
theorem nf {b : Bool} (h : b = false) : decide (b = true) = false := by rw [h]; rfl
theorem tuple_mul_some (l : Addr) (items : Array Value) (n : Nat) (dd : Option Addr) (sl : Array (Option Value)) (x : Int) (u : Tok) (h1 : 1 < x) (h2 : x ≤ 1000) (hne : items.isEmpty = false) (hz : items.size ≤ 1000) :
    Meets (Builtin.«tuple.__mul__» ⟨[.ref l, .int x u], []⟩) (fun _ R s => s.heap.get? l = some { cls := .type "tuple", dict := dd, data := .seq items n, slots := sl } ∧ R (.ok (.ret (Value.ref s.heap.objs.size))) { s with heap := s.heap.push { cls := Value.type "tuple", data := Data.seq (List.foldl (fun x1 x2 => x1 ++ x2) #[] (List.replicate x.toNat items)) }, toks := s.toks }) :=
  .of_wp fun prog w A R s h => by
    obtain ⟨hp, g, d, tk, os⟩ := s
    obtain ⟨hl, h⟩ := h
    have f1 := AutoSeq1.idx_int
    have f2 := AutoSeq1.sub_tuple_tuple
    wp_walk using wpAny_loadPart' hl
    refine wpAny_ite_false (nf (show (decide (x < -2 ^ 63) || decide (x ≥ 2 ^ 63)) = false from by rw [decide_eq_false (show ¬ x < -2 ^ 63 by omega), decide_eq_false (show ¬ x ≥ 2 ^ 63 by omega)]; rfl)) ?_
    wp_walk using wpAny_loadPart' hl
    refine wpAny_ite_false (nf (show (items.isEmpty || x == 1) = false from by rw [hne, beq_eq_false_iff_ne.mpr (show x ≠ 1 by omega)]; rfl)) ?_
    wp_walk using wpAny_loadPart' hl
    refine wpAny_ite_false (nf (show (decide (x ≤ 0) || items.isEmpty) = false from by rw [hne, decide_eq_false (show ¬ x ≤ 0 by omega)]; rfl)) ?_
    wp_walk using wpAny_loadPart' hl
    have hm : (items.size : Int) * x ≤ 1000 * 1000 := Int.mul_le_mul (by omega) h2 (by omega) (by omega)
    refine wpAny_ite_false (decide_eq_false (show ¬ (items.size : Int) * x > (2 ^ 63 - 1) / 8 by omega)) ?_
    wp_walk using wpAny_loadPart' hl
    refine wpAny_ite_false (nf (show decide ((items.size : Int) * x > (sizeLine : Int)) = false from decide_eq_false (by rw [sizeLine_eq]; omega))) ?_
    have hsz : ¬ (List.foldl (fun x1 x2 => x1 ++ x2) #[] (List.replicate x.toNat items)).size > sizeLine := by
      have e := foldl_rep items.toList x.toNat []
      rw [List.nil_append] at e
      have e2 : List.foldl (fun x1 x2 => x1 ++ x2) #[] (List.replicate x.toNat items) = (List.replicate x.toNat items.toList).flatten.toArray := e
      rw [e2, List.size_toArray, len_rep, Array.length_toList, sizeLine_eq]
      have : x.toNat * items.size ≤ 1000 * 1000 := Nat.mul_le_mul (by omega) hz
      omega
    wp_walk using wpAny_loadPart' hl
    exact ⟨_, rfl, h⟩
theorem tuple_mul_none (l : Addr) (items : Array Value) (n : Nat) (dd : Option Addr) (sl : Array (Option Value)) (x : Int) (u : Tok) (h1 : 1 < x) (h2 : x ≤ 1000) (hne : items.isEmpty = true) :
    Meets (Builtin.«tuple.__mul__» ⟨[.ref l, .int x u], []⟩) (fun _ R s => s.heap.get? l = some { cls := .type "tuple", dict := dd, data := .seq items n, slots := sl } ∧ R (.ok (.ret (Value.ref l))) s) :=
  .of_wp fun prog w A R s h => by
    obtain ⟨hp, g, d, tk, os⟩ := s
    obtain ⟨hl, h⟩ := h
    have f1 := AutoSeq1.idx_int
    have f2 := AutoSeq1.sub_tuple_tuple
    wp_walk using wpAny_loadPart' hl
    refine wpAny_ite_false (nf (show (decide (x < -2 ^ 63) || decide (x ≥ 2 ^ 63)) = false from by rw [decide_eq_false (show ¬ x < -2 ^ 63 by omega), decide_eq_false (show ¬ x ≥ 2 ^ 63 by omega)]; rfl)) ?_
    wp_walk using wpAny_loadPart' hl
    exact ⟨_, rfl, h⟩
theorem noFill_tuple_mul : fillsNumberSlot (.type "tuple") "mul" = pure false :=
  PySem.fillsNumberSlot_seq (id := "tuple.__mul__") (r := some (.builtin "tuple.__rmul__")) PySem.F.slot_tuple_mul.lookup (by decide +kernel) PySem.F.slot_tuple_rmul.lookup (by decide +kernel)
theorem repeat_tuple : seqRepeat? (.type "tuple") = pure (some (.builtin "tuple.__mul__")) := by
  unfold seqRepeat?
  rw [PySem.seqSlot_of (T := "tuple") (name := "__mul__") (id := "tuple.__mul__") PySem.F.slot_tuple_mul.lookup (by decide +kernel), PySem.seqSlot_of (T := "tuple") (name := "__rmul__") (id := "tuple.__rmul__") PySem.F.slot_tuple_rmul.lookup (by decide +kernel)]
  rfl
theorem int_rmul_tuple (a : Int) (t : Tok) (l : Addr) (items : Array Value) (n : Nat) (dd : Option Addr) (sl : Array (Option Value)) :
    Meets (Builtin.«int.__rmul__» ⟨[.int a t, .ref l], []⟩) (fun _ R s => s.heap.get? l = some { cls := .type "tuple", dict := dd, data := .seq items n, slots := sl } ∧ R (.ok (.ret Value.notImplemented)) s) :=
  .of_wp fun prog w A R s h => by
    obtain ⟨hp, g, d, tk, os⟩ := s
    obtain ⟨hl, h⟩ := h
    wp_walk using wpAny_loadPart' hl
    exact ⟨_, rfl, h⟩
def rRepT (K : PySem.W.Frag) : R2 := fun x y H Q => ∃ a k xs, x = .ref a ∧ y = .int k ∧ SqT K H a xs ∧ 1 < k ∧ k ≤ 1000 ∧ xs.length ≤ 1000 ∧ ∀ p H', Same H H' → SqT K H' p (List.replicate k.toNat xs).flatten → Q (.ref p) H'
theorem op_repT {X : Cx} {K : PySem.W.Frag} (hK : X.K = K) : OpR X (binaryOp .Mult) (rRepT K) := by
  subst hK
  intro pins s σ H x y v u Q I rx ry h
  obtain ⟨a, k, xs, rfl, rfl, ha, h1, h2, hz, q⟩ := h
  cases rx
  obtain ⟨t, rfl⟩ := ry
  obtain ⟨its, r, ⟨⟨cls, dd, data, sl⟩, ho, hc, n, hd⟩, hzz⟩ := I.tuple ha
  simp only at hc hd
  subst hc hd
  have hl := r.length
  refine wpAny_binaryOp_repeat_ref (T := "tuple") (U := "int") (by decide) ⟨_, ho, rfl⟩ (fun s' => typeIs_int s' k t) noFill_tuple_mul PySem.F.fills_int_mul PySem.F.slot_int_rmul repeat_tuple PySem.F.slot_int_index.lookup
    (call_meets PySem.F.slot_int_rmul (typeIs_int s k t) PySem.F.entry_int_rmul (PySem.F.args_int_rmul_2 _ _) (int_rmul_tuple k t a its.toArray n dd sl) ⟨ho, rfl, ⟨_, ho, rfl⟩, ?_⟩)
  by_cases hx : xs = []
  · subst hx
    cases r
    refine call_meets PySem.F.slot_tuple_mul ⟨_, ho, rfl⟩ PySem.F.entry_tuple_mul (PySem.F.args_tuple_mul_2 _ _) (tuple_mul_none a _ n dd sl k t h1 h2 rfl) ⟨ho, ?_⟩
    exact ⟨.ref a, H, I, rfl, q a H (Same.refl H) (by rw [List.flatten_replicate_nil]; exact ha)⟩
  · have hne : its.toArray.isEmpty = false := by
      cases its with
      | nil => cases r; exact absurd rfl hx
      | cons _ _ => rfl
    refine call_meets PySem.F.slot_tuple_mul ⟨_, ho, rfl⟩ PySem.F.entry_tuple_mul (PySem.F.args_tuple_mul_2 _ _) (tuple_mul_some a its.toArray n dd sl k t h1 h2 hne (by rw [List.size_toArray]; omega)) ⟨ho, ?_⟩
    have hnew : List.foldl (fun x1 x2 => x1 ++ x2) #[] (List.replicate k.toNat its.toArray) = (List.replicate k.toNat its).flatten.toArray := by
      have := foldl_rep its k.toNat []
      rw [List.nil_append] at this
      exact this
    rw [hnew]
    have hlen : (List.replicate k.toNat xs).flatten.length ≤ sizeLine := by
      rw [len_rep, sizeLine_eq]
      have : k.toNat * xs.length ≤ 1000 * 1000 := Nat.mul_le_mul (by omega) hz
      omega
    refine ⟨.ref _, _, I.laid (t' := s.toks) (o := .tup (List.replicate k.toNat xs).flatten) (fun b ob q => Heap.get?_push_of_some _ q) (Nat.le_refl _) ?_, rfl, q _ _ (Same.new (I.hok.fresh (Nat.le_refl _))) (SqT.of upd_same)⟩
    exact ⟨hlen, (List.replicate k.toNat its).flatten, 0, r.rep k.toNat, Heap.get?_push_size _ rfl⟩
section
variable {X : Cx} {pins : List (Addr × Obj)} {σ : St} {H : Hp} {s : Shared}
end

section
variable {K : PySem.W.Frag} {S : List Addr} {H H' H0 : Hp} {E E' : Hp → V → Prop}
def DTe (K : PySem.W.Frag) (S : List Addr) (E : Hp → V → Prop) (n : Nat) (H : Hp) (x : V) : Prop := ∃ a xs, x = .ref a ∧ SqT K (Vw S H) a xs ∧ xs.length ≤ n ∧ ∀ y ∈ xs, E H y
def LTe (S : List Addr) (E : Hp → V → Prop) (n : Nat) (H : Hp) (x : V) : Prop := ∃ a xs, x = .ref a ∧ Vw S H a = some (.lst xs) ∧ xs.length ≤ n ∧ ∀ y ∈ xs, E H y
instance {n : Nat} [m : Mo E] : Mo (DTe K S E n) := ⟨fun e ⟨a, xs, h1, h2, h3, h4⟩ => ⟨a, xs, h1, (Vw.same e).seqT h2, h3, fun y hy => m.mo e (h4 y hy)⟩⟩
instance {n : Nat} [m : Mo E] : Mo (LTe S E n) := ⟨fun e ⟨a, xs, h1, h2, h3, h4⟩ => ⟨a, xs, h1, Vw.same e _ _ h2, h3, fun y hy => m.mo e (h4 y hy)⟩⟩
variable {σ : St} {te ta tb ts : TE} {t tr : TA} {tl th : TO}
end
section
variable {env : Env} {rest es : List Expr} {k : Nat} {pos : Pos} {a b c : Expr}
theorem se_tup : starEach (.Tuple es k pos :: rest) env = (false, eval (.Tuple es k pos) env) :: starEach rest env := rfl
theorem se_lst : starEach (.List es pos :: rest) env = (false, eval (.List es pos) env) :: starEach rest env := rfl
theorem se_bin {op : Operator} : starEach (.BinOp a op b pos :: rest) env = (false, eval (.BinOp a op b pos) env) :: starEach rest env := rfl
theorem se_un {op : UnaryOp} : starEach (.UnaryOp op a pos :: rest) env = (false, eval (.UnaryOp op a pos) env) :: starEach rest env := rfl
theorem se_const {v : Const} : starEach (.Constant v k pos :: rest) env = (false, eval (.Constant v k pos) env) :: starEach rest env := rfl
theorem se_name {x : Str} : starEach (.Name x pos :: rest) env = (false, eval (.Name x pos) env) :: starEach rest env := rfl
end
end L2
set_option Elab.async false
set_option linter.all false
set_option maxRecDepth 100000
namespace L2
open PySem PySem.Spec PyProof.Rows
def compCheck1 (sc scope : Scope) (z0 : Str) (own : List Str) (frn : List Str) : Bool :=
  scope.kind == .function && scope.names.all (fun y => y.2 != .cell || y.1 == z0) && scope.names.all (fun y => y.2 != .local || scope.names.lookup y.1 == some .local) &&
  scope.names.all (fun y => y.2 != .free || sc.names.lookup y.1 == some .cell || sc.names.lookup y.1 == some .free) && decide (own ++ frn).Nodup &&
  frn.all (fun x => scope.names.lookup x == some .free) && scope.names.lookup z0 == some .cell && scope.names.all (fun y => y.2 != .free || y.1 != z0)
structure CompOk1 (X : Cx) (scope : Scope) (z0 : Str) (own : List Str) (fr : List Nat) (frn : List Str) : Prop where
  ck : compCheck1 X.env.scope scope z0 own frn = true
  ix : ∀ (k : Nat) (x : Str), frn[k]? = some x → ∃ j : Nat, fr[k]? = some j ∧ X.N[j]? = some x
  len : fr.length = frn.length
  cf : ∀ (n : Nat) (cl : List (Str × Addr)), cellsFrom n scope.names cl = (z0, n) :: cl
  pc : ∀ h : Heap, pushCells h scope.names = h.push { cls := .type "cell", data := .cell none }
section
variable {X : Cx} {scope : Scope} {z0 : Str} {own frn : List Str} {fr : List Nat}
theorem CompOk1.parts (S : CompOk1 X scope z0 own fr frn) : scope.kind = .function ∧ (∀ y ∈ scope.names, y.2 = .cell → y.1 = z0) ∧ (∀ y ∈ scope.names, y.2 = .local → scope.names.lookup y.1 = some .local) ∧
    (∀ y ∈ scope.names, y.2 = .free → X.env.scope.names.lookup y.1 = some .cell ∨ X.env.scope.names.lookup y.1 = some .free) ∧ (own ++ frn).Nodup ∧ (∀ x ∈ frn, scope.names.lookup x = some .free) ∧ scope.names.lookup z0 = some .cell ∧ ∀ y ∈ scope.names, y.2 = .free → y.1 ≠ z0 := by
  have h := S.ck
  unfold compCheck1 at h
  simp only [Bool.and_eq_true, List.all_eq_true, decide_eq_true_eq, Bool.or_eq_true, bne_iff_ne, ne_eq, beq_iff_eq] at h
  obtain ⟨⟨⟨⟨⟨⟨⟨h1, h2⟩, h3⟩, h4⟩, h5⟩, h7⟩, h8⟩, h9⟩ := h
  refine ⟨h1, fun y hy e => ?_, fun y hy e => ?_, fun y hy e => ?_, h5, h7, h8, fun y hy e => ?_⟩
  · rcases h2 y hy with z | z
    · exact absurd e z
    · exact z
  · rcases h3 y hy with z | z
    · exact absurd e z
    · exact z
  · rcases h4 y hy with (z | z) | z
    · exact absurd e z
    · exact .inl z
    · exact .inr z
  · rcases h9 y hy with z | z
    · exact absurd e z
    · exact z
end
section
variable {X : Cx} {scope : Scope} {z0 : Str} {own frn : List Str} {fr : List Nat} {elt tg iter : Expr} {ifs : List Expr} {pos : Pos} {wi : TI} {g : TG} {tt : TT} {te : TE}
theorem CompOk1.clo {pins : List (Addr × Obj)} {σ : St} {H : Hp} {s : Shared} (S : CompOk1 X scope z0 own fr frn) (I : Inv X pins σ H s) : closureFor scope X.env = pure (clOf X.env scope.names []) := by
  obtain ⟨p1, p2, p3, p4, p5, p7, p8, p9⟩ := S.parts
  exact clo_of fun y hy e => I.ok.has y.1 (p4 y hy e)

end

def relS (scope sc : Scope) : Scope := { scope with names := scope.names.map fun (n, k) => if (k == NameKind.free && sc.kind == .function && sc.names.lookup n == some .cell) then (n, NameKind.cell) else (n, k) }
end L2
set_option Elab.async false
set_option linter.all false
set_option maxRecDepth 100000
namespace L2
open PySem PySem.Spec PyProof.Rows
section
variable {X : Cx}
end
end L2
set_option Elab.async false
set_option linter.all false
set_option maxRecDepth 100000
namespace L2
open PySem PySem.Spec PyProof.Rows
theorem ObjOk.isThere {P : Program} {w : World} {H : Hp} {h : Heap} {a : Addr} {o : HO} (x : ObjOk P w H h a o) : ∃ ob, h.get? a = some ob := by
  cases o with
  | lst xs => obtain ⟨_, _, _, _, e⟩ := x; exact ⟨_, e⟩
  | tup xs => obtain ⟨_, _, _, _, e⟩ := x; exact ⟨_, e⟩
  | dK kvs => obtain ⟨_, _, _, _, o, _, _, e, _⟩ := x; exact ⟨_, e⟩
  | dT kvs => obtain ⟨_, _, _, _, o, _, _, e, _⟩ := x; exact ⟨_, e⟩
  | set S n => obtain ⟨o, _, _, _, e, _⟩ := x; exact ⟨_, e⟩
  | ins C dx fs => obtain ⟨_, _, _, e, _⟩ := x; exact ⟨_, e⟩
  | own y => obtain ⟨_, e⟩ := x; exact ⟨_, e⟩
  | xd fs => obtain ⟨_, ⟨_, _, _, e, _⟩, _⟩ := x; exact ⟨_, e⟩
  | rng lo hi => obtain ⟨_, _, _, e⟩ := x; exact ⟨_, e⟩
  | frz ob u => obtain ⟨e, _⟩ := x; exact ⟨_, e⟩
  | tbl ps => exact ⟨_, (show h.get? a = some _ from x)⟩
  | tab q => obtain ⟨_, e, _⟩ := x; exact ⟨_, e⟩
  | met f y => exact ⟨_, (show h.get? a = some _ from x)⟩
  | ext φ => obtain ⟨_, ⟨_, e⟩, _⟩ := x; exact ⟨_, e⟩
def FlyAt (h : Heap) (a : Addr) (cls : Value) (T : Addr) : Prop :=
  ∃ oe vs oT ts, h.get? a = some oe ∧ oe.cls = cls ∧ oe.data = .fields vs ∧ vs[1]? = some (.ref T) ∧ T ≠ a ∧ h.get? T = some oT ∧ oT.data = .fields ts ∧ ts[3]? = some .none
def CX1 (P : Program) (w : World) : CXT := fun outer H s E e s' => ∃ (a T C : Addr) (H' : Hp), e = .ref a ∧ s'.os = s.os ∧ AllBare s'.gens ∧ Un (frs outer) [] H H' s.heap s'.heap ∧ HOk P w H' s'.heap ∧ FlyAt s'.heap a (.ref C) T ∧
  s.heap.get? a = none ∧ s.heap.get? T = none ∧ H' a = none ∧ H' T = none ∧ E (.ref C) none H'
theorem frames_rebase {h b1 b2 : Heap} : ∀ {l : List Env}, h.FunFrames b1 l → (∀ L ∈ frs l, b2.get? L = none) → h.FunFrames b2 l
  | [], _, _ => trivial
  | env :: rest, ⟨hk, ⟨L, o, hf, hn, ho, hd⟩, hr⟩, hb => ⟨hk, ⟨L, o, hf, hb L (by unfold frs; rw [List.filterMap_cons, hf]; exact List.mem_cons_self ..), ho, hd⟩, frames_rebase hr fun M hM => hb M (by
      unfold frs at hM ⊢
      rw [List.filterMap_cons, hf]
      exact List.mem_cons_of_mem _ hM)⟩
theorem left_facts {base h h' : Heap} {l : List Env} {a : Addr} {cls : Value} {hid : List Addr} (hb : base = PySem.W.hideAll h hid) (hl : h.FunFrames base l) (x : Heap.Left base l a cls h h') (ha : a ∈ hid) :
    (∀ b o, b ∉ hid → h.get? b = some o → h'.get? b = some o) ∧ (∀ b o, b ∈ frs l → h.get? b = some o → ∃ sl, h'.get? b = some { o with slots := sl }) ∧ ∃ T, FlyAt h' a cls T ∧ T ∉ frs l ∧ (T ∈ hid ∨ h.get? T = none) := by
  obtain ⟨x1, x2, ⟨oe, vs, T, oT, ts, e1, e2, e3, e4, e5, e6, e7, e8, e9⟩, x4⟩ := x
  refine ⟨fun b o nb e => x1 b o (by rw [hb]; exact PySem.W.hideAll_get _ e nb), fun b o hbf e => ?_, T, ⟨oe, vs, oT, ts, e1, e2, e3, e4, e6, e7, e8, e9⟩, fun z => ?_, ?_⟩
  · obtain ⟨_, o', ho', hd'⟩ := hl.mem hbf
    have eo : o' = o := Option.some.inj (ho'.symm.trans e)
    subst eo
    exact x4 b o' ho' hd'
  · obtain ⟨_, o', ho', hd'⟩ := x2.mem z
    have eo : o' = oT := Option.some.inj (ho'.symm.trans e7)
    subst eo
    exact hd' ts e8
  · by_cases hT : T ∈ hid
    · exact .inl hT
    · refine .inr ?_
      cases q : h.get? T with
      | none => rfl
      | some o =>
        have := PySem.W.hideAll_get hid q hT
        rw [← hb, e5] at this
        cases this
section
variable {P : Program} {w : World} {K : PySem.W.Frag} {mg : Str → Option Value} {base : Heap} {N : List Str} {qual : Str} {scope : Scope} {f : Addr} {cd : Value} {A : Around} {outer : List Env} {s0 : Shared} {H0 : Hp} {E : XK}
theorem fly_end {pins : List (Addr × Obj)} {σ : St} {H : Hp} {s : Shared} {h' : Heap} {a C : Addr} {hid : List Addr} {bs : Heap} (I : Inv (cxOf (CX1 P w) P w K mg base N qual scope f cd A outer s0 H0 E) pins σ H s)
    (hb : bs = PySem.W.hideAll s.heap hid) (hl : s.heap.FunFrames bs (envOfC qual scope s0.heap.objs.size f cd :: outer)) (x : Heap.Left bs (envOfC qual scope s0.heap.objs.size f cd :: outer) a (.ref C) s.heap h') (ha : a ∈ hid)
    (hh : ∀ b ∈ hid, b ∈ frs (envOfC qual scope s0.heap.objs.size f cd :: outer) ∨ (s0.heap.get? b = none ∧ H b = none)) (hE : E (.ref C) none H) (ha0 : s0.heap.get? a = none) (hHa : H a = none) :
    CX1 P w outer H0 s0 E (.ref a) { s with heap := h' } := by
  obtain ⟨k1, k2, T, fl, nT, hT⟩ := left_facts hb hl x ha
  have Lne : ∀ b o, s0.heap.get? b = some o → b ≠ s0.heap.objs.size := fun b o e z => Nat.lt_irrefl _ (z ▸ Heap.lt_size e)
  have fs : ∀ b, b ∈ frs (envOfC qual scope s0.heap.objs.size f cd :: outer) ↔ b = s0.heap.objs.size ∨ b ∈ frs outer := fun b => by
    unfold frs
    rw [List.filterMap_cons]
    exact List.mem_cons
  have un : Un (frs outer) [] H0 H s0.heap s.heap := I.base
  have nh : ∀ b o, s0.heap.get? b = some o → b ∉ frs outer → b ∉ hid := fun b o e nb z => by
    rcases hh b z with q | q
    · rcases (fs b).mp q with q | q
      · exact Lne b o e q
      · exact nb q
    · rw [q.1] at e; cases e
  have trk : ∀ b u, H b = some u → b ∉ hid := fun b u e z => by
    rcases hh b z with q | q
    · rw [I.stkFree b q] at e; cases e
    · rw [q.2] at e; cases e
  have T0 : s0.heap.get? T = none ∧ H T = none := by
    rcases hT with z | z
    · rcases hh T z with q | q
      · exact absurd q nT
      · exact q
    · refine ⟨?_, ?_⟩
      · cases q : s0.heap.get? T with
        | none => rfl
        | some o =>
          obtain ⟨o', e⟩ := un.there T o q (by simp)
          rw [z] at e; cases e
      · cases q : H T with
        | none => rfl
        | some u =>
          obtain ⟨o', e⟩ := (I.hok T u q).isThere
          rw [show s.heap.get? T = none from z] at e; cases e
  refine ⟨a, T, C, H, rfl, I.os, I.bare, ⟨fun b o e n nb _ => ?_, fun b o e n hb' _ => ?_, un.free, fun b o e _ => ?_, un.tups, un.frzs, un.tbls⟩, fun b u e => ?_, fl, ha0, T0.1, hHa, T0.2, hE⟩
  · exact k1 b o (nh b o e nb) (un.keep b o e n nb (by simp))
  · obtain ⟨sl, q⟩ := un.slot b o e n hb' (by simp)
    obtain ⟨sl', q'⟩ := k2 b _ ((fs b).mpr (.inr hb')) q
    exact ⟨sl', q'⟩
  · obtain ⟨o', q⟩ := un.there b o e (by simp)
    by_cases hb' : b ∈ frs outer
    · obtain ⟨sl, q'⟩ := k2 b _ ((fs b).mpr (.inr hb')) q
      exact ⟨_, q'⟩
    · exact ⟨o', k1 b o' (nh b o e hb') q⟩
  · refine (I.hok b u e).stay (fun c v hc q => k1 c v ?_ q) (fun _ q => q) fun _ _ q => q
    rcases hc with z | z
    · rw [z]; exact trk b u e
    · exact trk c _ z
theorem pass1 : Passes (CX1 P w) (cxOf (CX1 P w) P w K mg base N qual scope f cd A outer s0 H0 E) E := by
  intro pins σ H s e s' I h
  obtain ⟨a, T, C, H', rfl, os, bare, un, hok, fl, na, nT, hHa, hHT, hE⟩ := h
  have I3 : Inv (cxOf (CX1 P w) P w K mg base N qual scope f cd A outer s0 H0 E) pins σ H' s' := I.call' (ch := []) os un hok bare (fun b z => absurd z (by simp))
  have un0 : Un (frs outer) [] H0 H s0.heap s.heap := I.base
  have n0 : ∀ b, s.heap.get? b = none → s0.heap.get? b = none := fun b z => by
    cases q : s0.heap.get? b with
    | none => rfl
    | some o =>
      obtain ⟨o', e⟩ := un0.there b o q (by simp)
      rw [z] at e; cases e
  have hl : s'.heap.FunFrames (PySem.W.hideAll s'.heap (a :: T :: frs (envOfC qual scope s0.heap.objs.size f cd :: outer))) (envOfC qual scope s0.heap.objs.size f cd :: outer) :=
    frames_rebase I3.stack fun L hL => PySem.W.hideAll_none _ (List.mem_cons_of_mem _ (List.mem_cons_of_mem _ hL))
  obtain ⟨oe, vs, oT, ts, e1, e2, e3, e4, e6, e7, e8, e9⟩ := fl
  show wpAny (model P w) (A.deeper (envOfC qual scope s0.heap.objs.size f cd)) (leaving (envOfC qual scope s0.heap.objs.size f cd) (.ref a)) _ _ s'
  refine wpAny_leaving_next (base := PySem.W.hideAll s'.heap (a :: T :: frs (envOfC qual scope s0.heap.objs.size f cd :: outer))) (cls := .ref C) I3.ok.frames hl rfl
    ⟨oe, vs, T, oT, ts, e1, e2, e3, e4, PySem.W.hideAll_none _ (by simp), e6, e7, e8, e9⟩ (fun b o q => PySem.W.of_hideAll _ q) (PySem.W.hideAll_none _ (by simp)) fun h' lf => ?_
  refine fly_end I3 rfl hl lf (by simp) (fun b hb => ?_) hE (n0 a na) hHa
  rcases List.mem_cons.mp hb with z | hb
  · rw [z]; exact .inr ⟨n0 a na, hHa⟩
  rcases List.mem_cons.mp hb with z | hb
  · rw [z]; exact .inr ⟨n0 T nT, hHT⟩
  · exact .inl hb
theorem raised1 {pins : List (Addr × Obj)} {σ : St} {H : Hp} {s : Shared} {h' : Heap} {a C : Addr} {vs : List Value} (I : Inv (cxOf (CX1 P w) P w K mg base N qual scope f cd A outer s0 H0 E) pins σ H s) (m : Heap.MadeExcOf s.heap h' a (.ref C) vs) (hE : E (.ref C) none H) :
    (cxOf (CX1 P w) P w K mg base N qual scope f cd A outer s0 H0 E).xe (.ref a) { s with heap := h' } := by
  obtain ⟨t, e1, _, _⟩ := m.there
  have I3 : Inv (cxOf (CX1 P w) P w K mg base N qual scope f cd A outer s0 H0 E) pins σ H { s with heap := h' } := I.kept (t' := s.toks) m.keeps
  have un0 : Un (frs outer) [] H0 H s0.heap s.heap := I.base
  have a0 : s0.heap.get? a = none := by
    cases q : s0.heap.get? a with
    | none => rfl
    | some o =>
      obtain ⟨o', e⟩ := un0.there a o q (by simp)
      rw [m.new] at e; cases e
  have hHa : H a = none := by
    cases q : H a with
    | none => rfl
    | some u =>
      obtain ⟨o', e⟩ := (I.hok a u q).isThere
      rw [m.new] at e; cases e
  have hl : h'.FunFrames (PySem.W.hideAll h' (a :: frs (envOfC qual scope s0.heap.objs.size f cd :: outer))) (envOfC qual scope s0.heap.objs.size f cd :: outer) :=
    frames_rebase I3.stack fun L hL => PySem.W.hideAll_none _ (List.mem_cons_of_mem _ hL)
  show wpAny (model P w) (A.deeper (envOfC qual scope s0.heap.objs.size f cd)) (leaving (envOfC qual scope s0.heap.objs.size f cd) (.ref a)) _ _ { s with heap := h' }
  refine wpAny_leaving_first (base := PySem.W.hideAll h' (a :: frs (envOfC qual scope s0.heap.objs.size f cd :: outer))) I3.ok.frames hl rfl e1 (fun b o q => PySem.W.of_hideAll _ q) (PySem.W.hideAll_none _ (by simp)) rfl rfl fun h2 lf => ?_
  refine fly_end (s := { s with heap := h' }) I3 rfl hl lf (by simp) (fun b hb => ?_) hE a0 hHa
  rcases List.mem_cons.mp hb with z | hb
  · rw [z]; exact .inr ⟨a0, hHa⟩
  · exact .inl hb
theorem Fun.okX {x qual : Str} {st : Stmt} {f : Addr} {fd : FuncData} {N ps : List Str} {k : Nat} {sp : Sp} (F : Fun K x qual st f fd) (S : FnScope N ps (defScope st)) (len : ∀ vs H Q E, sp vs H Q E → vs.length = ps.length)
    (hbody : ∀ (cdv : Value) (A : Around) (outer : List Env) (s : Shared) (H : Hp) (vs : List V) (Q : VK) (E : XK), Room k (A.deeper (envOfC qual (defScope st) s.heap.objs.size f cdv)) → sp vs H Q E →
      ∃ t, PSs (cxOf (CX1 P w) P w K mg base N qual (defScope st) f cdv A outer s H E) (defBody st) t ∧ t { nx := fun _ H' => Q .non H', rt := Q } (start N vs) H) : FnOk P w K mg base (CX1 P w) (k + 1) f fd ps sp := by
  obtain ⟨oc, od, kV, doc, pm, an, cdv, ct, osl, rfl, lk, hcd⟩ := F.ex
  exact fn_of lk hcd S len fun A outer s H vs Q E hr hsp => hbody cdv A outer s H vs Q E hr hsp
end
end L2
set_option Elab.async false
set_option linter.all false
set_option maxRecDepth 100000
namespace L2
open PySem PySem.Spec PyProof.Rows
abbrev vbm : List Value := [.type "ValueError", .type "Exception", .type "BaseException", .type "object"]
def qns : List Str := ["__init__", "__getattribute__", "__getattr__", "__class__"]
inductive TailN (h : Heap) (bmB : List Value) : List Value → Prop
  | base : TailN h bmB bmB
  | own {A : Addr} {c0 : Value} {dd : Option Addr} {cd : ClassData} {sl : Array (Option Value)} {mA : Str → Option Value} {tl : List Value} :
      h.get? A = some { cls := c0, dict := dd, data := .cls cd, slots := sl } → h.Ns cd.ns mA → (∀ n ∈ qns, mA n = none) → TailN h bmB tl → TailN h bmB (.ref A :: tl)
theorem TailN.tail {h : Heap} {bmB tl : List Value} (T : TailN h bmB tl) : OwnTail h bmB tl := by
  induction T with
  | base => exact .base
  | own hA hN hq _ ih => exact .own hA hN (hq _ (.head _)) ih
theorem TailN.keeps {h h' : Heap} {bmB tl : List Value} (T : TailN h bmB tl) (hk : ∀ b o, h.get? b = some o → h'.get? b = some o) : TailN h' bmB tl := by
  induction T with
  | base => exact .base
  | own hA hN hq _ ih => exact .own (hk _ _ hA) (hN.keeps hk) hq ih
def EcH (h : Heap) (C : Addr) (bm : List Value) : Prop := ∃ N nm q bs hdct sn sub ab col dd k0 k1 k2 k3 k5 mN, h.get? C = some (excClassObj nm q C N bs bm hdct sn sub ab col dd k0 k1 k2 k3 k5 "ValueError.__new__") ∧ h.Ns N mN ∧ (∀ n ∈ qns, mN n = none) ∧ TailN h vbm bm
theorem EcH.keeps {h h' : Heap} {C : Addr} {bm : List Value} (x : EcH h C bm) (hk : ∀ b o, h.get? b = some o → h'.get? b = some o) : EcH h' C bm := by
  obtain ⟨N, nm, q, bs, hdct, sn, sub, ab, col, dd, k0, k1, k2, k3, k5, mN, hC, hN, hq, T⟩ := x
  exact ⟨N, nm, q, bs, hdct, sn, sub, ab, col, dd, k0, k1, k2, k3, k5, mN, hk _ _ hC, hN.keeps hk, hq, T.keeps hk⟩
section
variable {M : Model} {prog : Program} {w : World} {A : Around} {E : Value → Shared → Prop} {h : Heap} {g : Array GenState} {d : Drawn} {t : Nat} {os : OsState} {a C : Addr} {o : Obj} {bm : List Value}
theorem along_N {bmB tl : List Value} {n : Str} {y : Option Value} {Q : Option Value → Shared → Prop} (hn : n ∈ qns) (T : TailN h bmB tl) (hrest : lookupAlong bmB n = pure y) (hq : Q y ⟨h, g, d, t, os⟩) :
    wpAny M A (lookupAlong tl n) Q E ⟨h, g, d, t, os⟩ := by
  induction T with
  | base => rw [hrest]; exact wpAny_pure hq
  | own hA hN hni _ ih =>
    rw [lookupAlong_cons]
    refine wpAny_bind (wpAny_classOwn_cls hA hN ?_)
    rw [hni n hn]
    exact ih
theorem look_N {n : Str} {y : Option Value} {Q : Option Value → Shared → Prop} (hn : n ∈ qns) (x : EcH h C bm) (hB : typeLookup (.type "ValueError") n = pure y) (hq : Q y ⟨h, g, d, t, os⟩) : wpAny M A (typeLookup (.ref C) n) Q E ⟨h, g, d, t, os⟩ := by
  obtain ⟨N, nm, q, bs, hdct, sn, sub, ab, col, dd, k0, k1, k2, k3, k5, mN, hC, hN, hmN, T⟩ := x
  have hrest : lookupAlong vbm n = pure y := by rw [typeLookup_eq, PySem.F.excBase_ValueError.mroIs] at hB; exact hB
  rw [typeLookup_eq]
  refine wpAny_bind (wpAny_mroOf_exc hC ?_)
  rw [lookupAlong_cons]
  refine wpAny_bind (wpAny_classOwn_exc hC hN ?_)
  rw [hmN n hn]
  exact along_N hn T hrest hq
theorem lk_ve_class : typeLookup (.type "ValueError") "__class__" = pure (some (.builtin "object.__class__")) := by rw [typeLookup_type, builtinLookup_eq_fast]; kernel_rfl
theorem sub_N {base : Value} {Q : Bool → Shared → Prop} (x : EcH h C bm) (hq : Q ((Value.ref C :: bm).contains base) ⟨h, g, d, t, os⟩) : wpAny M A (isSubtype (.ref C) base) Q E ⟨h, g, d, t, os⟩ := by
  obtain ⟨N, nm, q, bs, hdct, sn, sub, ab, col, dd, k0, k1, k2, k3, k5, mN, hC, hN, hmN, T⟩ := x
  exact wpAny_isSubtype_exc hC hq
theorem EcH.has {T : String} (x : EcH h C bm) (hb : vbm.contains (.type T) = true) : (Value.ref C :: bm).contains (.type T) = true := by
  obtain ⟨N, nm, q, bs, hdct, sn, sub, ab, col, dd, k0, k1, k2, k3, k5, mN, hC, hN, hmN, TT⟩ := x
  rw [List.contains_cons, TT.tail.hasType hb, Bool.or_true]
theorem class_get_N {R : Result → Shared → Prop} (x : EcH h C bm) (hx : h.get? a = some o) (hc : o.cls = .ref C) (hq : R (.ok (.ret (.ref C))) ⟨h, g, d, t, os⟩) :
    codeAny (model prog w) A (.call (.builtin "getset_descriptor.__get__") ⟨[.builtin "object.__class__", .ref a, .ref C], []⟩) R ⟨h, g, d, t, os⟩ := by
  have hT5 : (⟨h, g, d, t, os⟩ : Shared).TypeIs (.builtin "object.__class__") "getset_descriptor" := PySem.F.typeOf_object_class
  have hcB : (Value.ref C :: bm).contains (.type (".".intercalate ("object.__class__".cutAt '.').dropLast)) = true := by
    rw [PySem.F.owner_object_class]; exact x.has (by decide +kernel)
  refine codeAny_call_builtin PySem.F.slot_gs_get.plain PySem.F.entry_gs_get (PySem.F.slot_gs_get.check _ _ _ _ _ _ _ _ hT5 (PySem.F.args_gs_get _ _ _) ?_)
  repeat (any_goals (first | assumption | (with_reducible refine wpAny_loadPart_at hx ?_; rw [hc]) | (with_reducible refine sub_N x ?_; rw [hcB]) | wp_step))
  refine ⟨Code.quiet_builtin _ (by decide +kernel), codeAny_builtin PySem.F.entry_object_class ?_⟩
  repeat (any_goals (first | assumption | (with_reducible refine wpAny_loadPart_at hx ?_; rw [hc]) | wp_step))
theorem class_entry_N {tk : Tok} {Q : PySem.Fin → Shared → Prop} (x : EcH h C bm) (hx : h.get? a = some o) (hc : o.cls = .ref C) (hq : Q (.done (.ret (.ref C))) ⟨h, g, d, t, os⟩) :
    wpAny (model prog w) A (Builtin.«object.__getattribute__» ⟨[.ref a, .str "__class__" tk], []⟩) Q E ⟨h, g, d, t, os⟩ := by
  have hT5 : (⟨h, g, d, t, os⟩ : Shared).TypeIs (.builtin "object.__class__") "getset_descriptor" := PySem.F.typeOf_object_class
  have f5 := PySem.F.typeOf_object_class
  have f6 := PySem.F.slot_gs_get.lookup
  have f7 := PySem.F.slot_gs_set.lookup
  have hm : ("__class__" : Str) ∈ qns := .tail _ (.tail _ (.tail _ (.head _)))
  repeat (any_goals (first | assumption | (with_reducible refine wpAny_loadPart_at hx ?_; rw [hc]) | with_reducible refine look_N hm x lk_ve_class ?_ | wp_step))
  refine class_get_N x hx hc ?_
  repeat (any_goals (first | assumption | wp_step))
theorem check_ga_N {nameV : Value} {Q : Unit → Shared → Prop} (x : EcH h C bm) (hx : h.get? a = some o) (hc : o.cls = .ref C) (hq : Q () ⟨h, g, d, t, os⟩) : wpAny M A (checkBuiltinCall "BaseException.__getattribute__" ⟨[.ref a, nameV], []⟩) Q E ⟨h, g, d, t, os⟩ := by
  have hk : builtinKind "BaseException.__getattribute__" = some .slot := by decide +kernel
  have hsplit : splitId "BaseException.__getattribute__" = some ("BaseException", "__getattribute__") := by decide +kernel
  have hcB : (Value.ref C :: bm).contains (.type "BaseException") = true := x.has (by decide +kernel)
  have ha := PySem.F.args_bexc_ga (.ref a) nameV
  simp only [checkBuiltinCall, hk, hsplit]
  refine wpAny_bind ?_
  · unfold isInstance
    repeat (first | (with_reducible refine wpAny_loadPart_at hx ?_; rw [hc]) | (with_reducible refine sub_N x ?_; rw [hcB]) | wp_step)
    exact hq
theorem class_by_N {tk : Tok} {Q : Value → Shared → Prop} (x : EcH h C bm) (hx : h.get? a = some o) (hc : o.cls = .ref C) (hq : Q (.ref C) ⟨h, g, d, t, os⟩) : wpAny (model prog w) A (getAttrBy (.ref a) (.str "__class__" tk) false) Q E ⟨h, g, d, t, os⟩ := by
  have FB := PySem.F.attrBase_ValueError
  have f3 := FB.ga.bind (.ref a)
  have hx2 : (Value.builtin "BaseException.__getattribute__" == Value.builtin "object.__getattribute__") = false := by decide +kernel
  have hx1 : (onTheHeap (Value.ref C) && Value.builtin "BaseException.__getattribute__" == Value.builtin "object.__getattribute__") = false := by rw [hx2]; rfl
  have hm1 : ("__getattribute__" : Str) ∈ qns := .tail _ (.head _)
  have hm2 : ("__getattr__" : Str) ∈ qns := .tail _ (.tail _ (.head _))
  repeat (any_goals (first | assumption | (with_reducible refine wpAny_loadPart_at hx ?_; rw [hc]) | with_reducible refine look_N hm1 x FB.ga.lookup ?_ | with_reducible refine look_N hm2 x FB.noGetattr ?_ | wp_step))
  refine codeAny_call_builtin FB.ga.plain PySem.F.entry_bexc_ga (check_ga_N x hx hc (class_entry_N x hx hc ?_))
  repeat (any_goals (first | assumption | wp_step))
theorem class_attr_N {Q : Option Value → Shared → Prop} (x : EcH h C bm) (hx : h.get? a = some o) (hc : o.cls = .ref C) (hq : Q (some (.ref C)) ⟨h, g, d, t + 1, os⟩) : wpAny (model prog w) A (getAttr? (.ref a) "__class__") Q E ⟨h, g, d, t, os⟩ := by
  unfold getAttr? getAttrBy?
  repeat (any_goals (first | assumption | with_reducible apply class_by_N x hx hc | wp_step))
end
end L2
set_option Elab.async false
set_option linter.all false
set_option maxRecDepth 100000
namespace L2
open PySem PySem.Spec PyProof.Rows
section
variable {M : Model} {prog : Program} {w : World} {A : Around} {E : Value → Shared → Prop} {h : Heap} {g : Array GenState} {d : Drawn} {t : Nat} {os : OsState} {a C : Addr} {o : Obj} {bm : List Value}
theorem isi_own {C' : Addr} {dd' : Option Addr} {cd' : ClassData} {sl' : Array (Option Value)} {Q : Value → Shared → Prop} (x : EcH h C bm) (hx : h.get? a = some o) (hc : o.cls = .ref C) (hC' : h.get? C' = some { cls := .type "type", dict := dd', data := .cls cd', slots := sl' })
    (hq : ∀ t', Q (.bool ((Value.ref C :: bm).contains (.ref C'))) ⟨h, g, d, t', os⟩) : wpAny (model prog w) A (call (.builtin "isinstance") [.ref a, .ref C']) Q E ⟨h, g, d, t, os⟩ := by
  have f3 := tc_sub
  have hT' : (⟨h, g, d, t, os⟩ : Shared).TypeIs (.ref C') "type" := ⟨_, hC', rfl⟩
  obtain ⟨N, nm, q, bs, hdct, sn, sub, ab, col, dd, k0, k1, k2, k3, k5, mN, hC, _⟩ := id x
  refine PyProof.Rows.call_isinstance_of ?_ (by intro e; cases e)
  by_cases e : C = C'
  · subst e
    have hb : (Value.ref C :: bm).contains (.ref C) = true := by simp
    rw [hb] at hq
    unfold Builtin.«isinstance.nested»
    repeat (any_goals (first | assumption | (with_reducible refine wpAny_loadPart_at hx ?_; rw [hc]) | wp_step))
    exact hq _
  · have hne : (Value.ref C == Value.ref C') = false := by simp [e]
    cases hb : (Value.ref C :: bm).contains (.ref C') with
    | true =>
      rw [hb] at hq
      unfold Builtin.«isinstance.nested»
      repeat (any_goals (first | assumption | (with_reducible refine wpAny_loadPart_at hx ?_; rw [hc]) | (with_reducible refine wpAny_loadPart_at hC' ?_) | (with_reducible refine sub_N x ?_; rw [hb]) | wp_step))
      exact hq _
    | false =>
      rw [hb] at hq
      have hTC : ∀ t', (⟨h, g, d, t', os⟩ : Shared).TypeIs (.ref C) "type" := fun _ => ⟨_, hC, rfl⟩
      unfold Builtin.«isinstance.nested»
      repeat (any_goals (first | assumption | (with_reducible refine wpAny_loadPart_at hx ?_; rw [hc]) | (with_reducible refine wpAny_loadPart_at hC' ?_) | (with_reducible refine sub_N x ?_; rw [hb]) | with_reducible refine class_attr_N x hx hc ?_ | (with_reducible refine wpAny_loadPart_at hC ?_) | wp_step))
      exact hq _
theorem isi_ve {Q : Value → Shared → Prop} (x : EcH h C bm) (hx : h.get? a = some o) (hc : o.cls = .ref C)
    (hq : ∀ t', Q (.bool true) ⟨h, g, d, t', os⟩) : wpAny (model prog w) A (call (.builtin "isinstance") [.ref a, .type "ValueError"]) Q E ⟨h, g, d, t, os⟩ := by
  have f3 := tc_sub
  have hty : typeOf (.type "ValueError") = pure (.type "type") := by kernel_rfl
  have hne : (Value.ref C == Value.type "ValueError") = false := by rfl
  have hb : (Value.ref C :: bm).contains (.type "ValueError") = true := x.has (by decide +kernel)
  refine PyProof.Rows.call_isinstance_of ?_ (by intro e; cases e)
  unfold Builtin.«isinstance.nested»
  repeat (any_goals (first | assumption | (with_reducible refine wpAny_loadPart_at hx ?_; rw [hc]) | (with_reducible refine sub_N x ?_; rw [hb]) | wp_step))
  exact hq _
end
end L2
set_option Elab.async false
set_option linter.all false
set_option maxRecDepth 100000
namespace L2
open PySem PySem.Spec PyProof.Rows
def ExO (C a : Addr) : HO := .ext fun h => ∃ o, h.get? a = some o ∧ o.cls = .ref C
section
variable {X : Cx}
theorem Inv.exo {pins : List (Addr × Obj)} {σ : St} {H : Hp} {s : Shared} {a C : Addr} (I : Inv X pins σ H s) (h : H a = some (ExO C a)) : ∃ o, s.heap.get? a = some o ∧ o.cls = .ref C := (I.hok a _ h).1
theorem call_isi_exc {K : PySem.W.Frag} {C' : Addr} (hK : X.K = K) (hC' : ∀ h : Heap, K.In h → ∃ dd cd sl, h.get? C' = some { cls := .type "type", dict := dd, data := .cls cd, slots := sl }) :
    CallR X (.builtin "isinstance") (fun xs H Q => ∃ a C bm, xs = [.ref a, .ref C'] ∧ H a = some (ExO C a) ∧ (∀ h : Heap, K.In h → EcH h C bm) ∧ Q (.bl ((Value.ref C :: bm).contains (.ref C'))) H) := by
  subst hK
  intro pins s σ H xs us Q I r h
  obtain ⟨a, C, bm, rfl, hH, hE, q⟩ := h
  obtain ⟨u, t, rfl, rx, rt⟩ := vals2 r
  cases rx
  cases rt
  obtain ⟨o, ho, hc⟩ := I.exo hH
  obtain ⟨dd, cd, sl, h2⟩ := hC' _ I.kIn
  obtain ⟨hh, g, d, tk, os⟩ := s
  exact isi_own (hE _ I.kIn) ho hc h2 fun t' => ⟨.bl _, H, I.tok _, rfl, q⟩
theorem call_isi_ve {K : PySem.W.Frag} (hK : X.K = K) :
    CallR X (.builtin "isinstance") (fun xs H Q => ∃ a C bm, xs = [.ref a, .ty "ValueError"] ∧ H a = some (ExO C a) ∧ (∀ h : Heap, K.In h → EcH h C bm) ∧ Q (.bl true) H) := by
  subst hK
  intro pins s σ H xs us Q I r h
  obtain ⟨a, C, bm, rfl, hH, hE, q⟩ := h
  obtain ⟨u, t, rfl, rx, rt⟩ := vals2 r
  cases rx
  cases rt
  obtain ⟨o, ho, hc⟩ := I.exo hH
  obtain ⟨hh, g, d, tk, os⟩ := s
  exact isi_ve (hE _ I.kIn) ho hc fun t' => ⟨.bl _, H, I.tok _, rfl, q⟩
def tRaise (C : Addr) (E : XK) : TS := fun _ _ H => E (.ref C) none H
theorem ps_raise {x txt : Str} {np cpos pos p2 : Pos} {k : Nat} {C : Addr} {bm : List Value} {E : XK} (hEc : ∀ h : Heap, X.K.In h → EcH h C bm) (hg : Gl X x) (hm : X.mg x = some (.ref C)) (hc : X.calm = true)
    (hR : ∀ (pins : List (Addr × Obj)) (σ : St) (H : Hp) (s : Shared) (h' : Heap) (a : Addr) (vs : List Value), Inv X pins σ H s → Heap.MadeExcOf s.heap h' a (.ref C) vs → E (.ref C) none H → X.xe (.ref a) { s with heap := h' })
    (hdb : (x == ("__debug__" : Str)) = false := by decide) :
    PS X (.Raise (some (.Call (.Name x np) [.Constant (.str txt) k p2] [] cpos)) none pos) (tRaise C E) := by
  intro pins s σ H D I h
  obtain ⟨N, nm, q, bs, hdct, sn, sub, ab, col, dd, k0, k1, k2, k3, k5, mN, hC, hN, hq, T⟩ := hEc _ I.ok.mod.kin
  refine wpAny_Raise_call_subU (C := C) (nm := nm) (q := q) (N := N) (bs := bs) (bm := bm) (hdct := hdct) (sn := sn) (sub := sub) (ab := ab) (col := col) (dd := dd) (k0 := k0) (k1 := k1) (k2 := k2) (k3 := k3) (k5 := k5) (mN := mN)
    PySem.F.excBase_ValueError (by decide +kernel) PySem.F.excBase_ValueError (T.tail.hasType (by decide +kernel)) (I.ok.hd hc) rfl (hq _ (.head _)) ?_
  refine ld_glob I hg hm ⟨rfl, ?_⟩ hdb
  have ha : PA X [.Constant (.str txt) k p2] (tCons (tC (.str txt)) tNil) := pa_cons pe_str pa_nil
  refine Calls.evalArgs_plain (wpAny_mono (ha cpos pins s σ H (fun xs H1 => xs.length = 1 ∧ E (.ref C) none H1) I ⟨rfl, h⟩) (fun vs s₂ hx9 => ?_) fun _ _ y => y)
  obtain ⟨xs, H1, I1, r, z1, z⟩ := hx9
  have hkk : ∀ b o, X.base.get? b = some o → s₂.heap.get? b = some o := I1.bk
  have hl := r.length
  refine ⟨rfl, ?_, hkk _ _ hC, hN.keeps hkk, T.tail.keeps hkk, fun h' a' m => hR pins σ H1 s₂ h' a' _ I1 m z⟩
  show vs.length ≤ _
  rw [sizeLine_eq]
  omega
end
end L2
set_option Elab.async false
set_option linter.all false
set_option maxRecDepth 100000
namespace L2
open PySem PySem.Spec PyProof.Rows
section
variable {P : Program} {w : World} {l : List Env} {H H' : Hp} {s s' : Shared} {E : XK} {a T C : Addr}
theorem cx1_left {h' bs : Heap} (un : Un (frs l) [] H H' s.heap s'.heap) (os : s'.os = s.os) (bare : AllBare s'.gens) (hok : HOk P w H' s'.heap) (na : s.heap.get? a = none) (nT : s.heap.get? T = none) (hHa : H' a = none) (hHT : H' T = none) (hE : E (.ref C) none H')
    (hb : bs = PySem.W.hideAll s'.heap (a :: T :: frs l)) (hl : s'.heap.FunFrames bs l) (frf : ∀ b ∈ frs l, H' b = none) (x : Heap.Left bs l a (.ref C) s'.heap h') : CX1 P w l H s E (.ref a) { s' with heap := h' } := by
  obtain ⟨k1, k2, T', fl, nT', hT'⟩ := left_facts hb hl x (by simp)
  have nh : ∀ b o, s.heap.get? b = some o → b ∉ frs l → b ∉ a :: T :: frs l := fun b o e nb z => by
    rcases List.mem_cons.mp z with q | z
    · rw [q, na] at e; cases e
    rcases List.mem_cons.mp z with q | z
    · rw [q, nT] at e; cases e
    · exact nb z
  have trk : ∀ b u, H' b = some u → b ∉ a :: T :: frs l := fun b u e z => by
    rcases List.mem_cons.mp z with q | z
    · rw [q, hHa] at e; cases e
    rcases List.mem_cons.mp z with q | z
    · rw [q, hHT] at e; cases e
    · rw [frf b z] at e; cases e
  have T0 : s.heap.get? T' = none ∧ H' T' = none := by
    rcases hT' with z | z
    · rcases List.mem_cons.mp z with q | z
      · rw [q]; exact ⟨na, hHa⟩
      rcases List.mem_cons.mp z with q | z
      · rw [q]; exact ⟨nT, hHT⟩
      · exact absurd z nT'
    · refine ⟨?_, ?_⟩
      · cases q : s.heap.get? T' with
        | none => rfl
        | some o =>
          obtain ⟨o', e⟩ := un.there T' o q (by simp)
          rw [z] at e; cases e
      · cases q : H' T' with
        | none => rfl
        | some u =>
          obtain ⟨o', e⟩ := (hok T' u q).isThere
          rw [show s'.heap.get? T' = none from z] at e; cases e
  refine ⟨a, T', C, H', rfl, os, bare, ⟨fun b o e n nb _ => ?_, fun b o e n hb' _ => ?_, un.free, fun b o e _ => ?_, un.tups, un.frzs, un.tbls⟩, fun b u e => ?_, fl, na, T0.1, hHa, T0.2, hE⟩
  · exact k1 b o (nh b o e nb) (un.keep b o e n nb (by simp))
  · obtain ⟨sl, q⟩ := un.slot b o e n hb' (by simp)
    obtain ⟨sl', q'⟩ := k2 b _ hb' q
    exact ⟨sl', q'⟩
  · obtain ⟨o', q⟩ := un.there b o e (by simp)
    by_cases hb' : b ∈ frs l
    · obtain ⟨sl, q'⟩ := k2 b _ hb' q
      exact ⟨_, q'⟩
    · exact ⟨o', k1 b o' (nh b o e hb') q⟩
  · refine (hok b u e).stay (fun c v hc q => k1 c v ?_ q) (fun _ q => q) fun _ _ q => q
    rcases hc with z | z
    · rw [z]; exact trk b u e
    · exact trk c _ z
theorem FlyAt.traced {h bs : Heap} {cls : Value} (fl : FlyAt h a cls T) (hT : bs.get? T = none) : ∃ a0, h.TracedW bs a cls a0 := by
  obtain ⟨oe, vs, oT, ts, e1, e2, e3, e4, e6, e7, e8, e9⟩ := fl
  have hs : 1 < vs.size := (Array.getElem?_eq_some_iff.mp e4).1
  exact ⟨vs[0]'(by omega), oe, vs, T, oT, ts, e1, ⟨e2, Array.getElem?_eq_getElem _⟩, e3, e4, hT, e6, e7, e8, e9⟩
end
section
variable {X : Cx} {pins : List (Addr × Obj)} {σ : St} {H : Hp} {s s' : Shared} {E : XK} {e : Value} {M : Model} {A : Around} {F : Value → Shared → Prop} {L : Addr}
theorem Inv.caught (I : Inv X pins σ H s) (h : CX1 X.prog X.w X.stack H s E e s') : ∃ (a C : Addr) (H' : Hp), e = .ref a ∧ Inv X pins σ H' s' ∧ s.heap.get? a = none ∧ H' a = none ∧ E (.ref C) none H' ∧ ∃ o, s'.heap.get? a = some o ∧ o.cls = .ref C := by
  obtain ⟨a, T, C, H', rfl, os, bare, un, hok, ⟨oe, vs, oT, ts, e1, e2, _⟩, na, nT, hHa, hHT, hE⟩ := h
  exact ⟨a, C, H', rfl, I.call' (ch := []) os un hok bare (fun b z => absurd z (by simp)), na, hHa, hE, oe, e1, e2⟩
theorem cx1_note (hst : X.stack = X.env :: X.outer) (hf : X.env.frame = some L) (hfr : A.frames = some X.stack) (I : Inv X pins σ H s) (h : CX1 X.prog X.w X.stack H s E e s') :
    wpAny M A (noteFrame e X.env) (fun _ s2 => wpAny M A (setFlight e none) (fun _ s3 => CX1 X.prog X.w X.stack H s E e s3) F s2) F s' := by
  obtain ⟨a, T, C, H', rfl, os, bare, un, hok, fl, na, nT, hHa, hHT, hE⟩ := h
  have I3 : Inv X pins σ H' s' := I.call' (ch := []) os un hok bare (fun b z => absurd z (by simp))
  have hl : s'.heap.FunFrames (PySem.W.hideAll s'.heap (a :: T :: frs X.stack)) X.stack :=
    frames_rebase I3.stack fun L hL => PySem.W.hideAll_none _ (List.mem_cons_of_mem _ (List.mem_cons_of_mem _ hL))
  obtain ⟨a0, tr⟩ := fl.traced (bs := PySem.W.hideAll s'.heap (a :: T :: frs X.stack)) (PySem.W.hideAll_none _ (by simp))
  have fin := fun (h' : Heap) => cx1_left (P := X.prog) (w := X.w) (h' := h') un os bare hok na nT hHa hHT hE rfl hl I3.stkFree
  generalize hbs : PySem.W.hideAll s'.heap (a :: T :: frs X.stack) = bs at *
  have kb : bs.StaysIn s'.heap := fun b o q => by rw [← hbs] at q; exact PySem.W.of_hideAll _ q
  have en : bs.get? a = none := by rw [← hbs]; exact PySem.W.hideAll_none _ (by simp)
  have hl2 := hl
  rw [hst] at hl2
  refine wpAny_looks_onW (base := bs) (outer := X.outer) (by rw [← hst]; exact hfr) hf ⟨kb, en, hl2, tr⟩ fun h1 held up1 => ?_
  refine wpAny_landsW held fun h2 fly up2 => ?_
  obtain ⟨f1, f2, f3, f4⟩ := fly.flying
  exact fin h2 ⟨f1, by rw [hst]; exact f3, f4, up1.trans up2⟩
theorem cx1_set (I : Inv X pins σ H s) (h : CX1 X.prog X.w X.stack H s E e s') : wpAny M A (setFlight e none) (fun _ s3 => CX1 X.prog X.w X.stack H s E e s3) F s' := by
  obtain ⟨a, T, C, H', rfl, os, bare, un, hok, fl, na, nT, hHa, hHT, hE⟩ := h
  have I3 : Inv X pins σ H' s' := I.call' (ch := []) os un hok bare (fun b z => absurd z (by simp))
  have hl : s'.heap.FunFrames (PySem.W.hideAll s'.heap (a :: T :: frs X.stack)) X.stack :=
    frames_rebase I3.stack fun L hL => PySem.W.hideAll_none _ (List.mem_cons_of_mem _ (List.mem_cons_of_mem _ hL))
  obtain ⟨a0, tr⟩ := fl.traced (bs := PySem.W.hideAll s'.heap (a :: T :: frs X.stack)) (PySem.W.hideAll_none _ (by simp))
  have fin := fun (h' : Heap) => cx1_left (P := X.prog) (w := X.w) (h' := h') un os bare hok na nT hHa hHT hE rfl hl I3.stkFree
  generalize hbs : PySem.W.hideAll s'.heap (a :: T :: frs X.stack) = bs at *
  have kb : bs.StaysIn s'.heap := fun b o q => by rw [← hbs] at q; exact PySem.W.of_hideAll _ q
  refine wpAny_setFlight_noneW kb hl tr.at fun h1 k1 k2 k3 k4 => fin h1 ⟨k1, k2, ?_, fun b o q n => ⟨o.slots, k4 b o q n⟩⟩
  obtain ⟨oe, vs, T, oT, ts, he, hc, r⟩ := k3
  exact ⟨oe, vs, T, oT, ts, he, hc.1, r⟩
theorem Inv.trackN {D : Addr} {u : HO} (I : Inv X pins σ H s) (new : ObjOk X.prog X.w (upd H D u) s.heap D u) (hn : H D = none) (hL : D ≠ X.env.locals)
    (h1 : X.s₀.heap.get? D = none) (h2 : ∀ x c, X.env.cells.lookup x = some c → c ≠ D) (h3 : ∀ p ∈ X.pn ++ pins, p.1 ≠ D) : Inv X pins σ (upd H D u) s := by
  have ne : ∀ b v, H b = some v → b ≠ D := fun b v e z => by rw [z, hn] at e; cases e
  refine ⟨I.ok, I.os, I.bare, ⟨I.base.keep, I.base.slot, fun b o q n hx => ?_, I.base.there, fun b xs q => ?_, fun b o v q => ?_, fun b ps q => ?_⟩, I.loc, I.cell, ?_, fun x c q => ?_, fun p hp => ?_, fun b v q => ?_, I.len⟩
  · rw [upd_ne (fun z => by rw [z, h1] at q; cases q)]; exact I.base.free b o q n hx
  · have := I.base.tups b xs q
    rw [upd_ne (ne b _ this)]; exact this
  · have := I.base.frzs b o v q
    rw [upd_ne (ne b _ this)]; exact this
  · obtain ⟨more, this⟩ := I.base.tbls b ps q
    exact ⟨more, by rw [upd_ne (ne b _ this)]; exact this⟩
  · rw [upd_ne (Ne.symm hL)]; exact I.free
  · rw [upd_ne (h2 x c q)]; exact I.freeC x c q
  · obtain ⟨p1, p2, p3⟩ := I.pin p hp
    exact ⟨p1, by rw [upd_ne (h3 p hp)]; exact p2, p3⟩
  · by_cases hb : b = D
    · subst hb
      rw [upd_same] at q; cases q
      exact new
    · rw [upd_ne hb] at q
      exact (I.hok b v q).stay (fun c v _ q => q) (fun c q => by rw [upd_ne (ne c _ q)]; exact q) fun c xs q => by rw [upd_ne (ne c _ q)]; exact q
theorem goes_ok {i : Nat} {x : Str} {pos : Pos} {Q : Unit → Shared → Prop} (I : Inv X pins σ H s) (hN : X.N.Nodup) (hi : X.N[i]? = some x) (hk : X.env.scope.names.lookup x = some .local)
    (h : ∀ s', Inv X pins (σ.set i none) H s' → Q () s') : wpAny M A (do bindName X.env x .none; unbindBehindTheSuite X.env x pos) Q F s := by
  obtain ⟨m, hn, hl⟩ := id I.loc
  have hcls : (X.env.scope.kind == .class || (X.env.scope.kind == .module && X.env.locals != X.env.globals)) = false := by rw [I.ok.kind]; rfl
  have hiσ : i < σ.length := by rw [I.len]; exact (List.getElem?_eq_some_iff.mp hi).1
  have cne := I.cne
  obtain ⟨oL, _, _, hoL, _⟩ := id hn
  refine wpAny_nameGoes_keeps hk hn hcls fun h' v hn' hs => ?_
  refine h _ ⟨I.ok, I.os, I.bare, ⟨fun b o e n hb hx => ?_, fun b o e n hb hx => ?_, I.base.free, fun b o e hx => ?_, I.base.tups, I.base.frzs, I.base.tbls⟩, ⟨_, hn', fun j y v' e1 e2 e3 => ?_⟩, fun y c e => ?_, I.free, I.freeC, fun p hp => ?_, fun b ob e => ?_, by simpa using I.len⟩
  · exact (hs.2 b (Nat.ne_of_lt (Nat.lt_of_lt_of_le (Heap.lt_size e) I.ok.above))).trans (I.base.keep b o e n hb hx)
  · obtain ⟨sl, e1⟩ := I.base.slot b o e n hb hx
    exact ⟨sl, (hs.2 b (Nat.ne_of_lt (Nat.lt_of_lt_of_le (Heap.lt_size e) I.ok.above))).trans e1⟩
  · obtain ⟨o', e1⟩ := I.base.there b o e hx
    exact ⟨o', (hs.2 b (Nat.ne_of_lt (Nat.lt_of_lt_of_le (Heap.lt_size e) I.ok.above))).trans e1⟩
  · by_cases hj : j = i
    · subst hj
      rw [List.getElem?_set_self hiσ] at e2
      cases e2
    · rw [List.getElem?_set_ne (Ne.symm hj)] at e2
      obtain ⟨u', r', q⟩ := hl j y v' e1 e2 e3
      refine ⟨u', r', ?_⟩
      rcases q with ⟨k, e⟩ | ⟨k, c, e, z⟩
      · refine .inl ⟨k, ?_⟩
        have : y ≠ x := fun e => hj (nodup_ix hN e1 (e ▸ hi))
        simp [this, e]
      · exact .inr ⟨k, c, e, z.sameBut hs (cne _ _ e)⟩
  · obtain ⟨v', z⟩ := I.cell y c e
    exact ⟨v', z.sameBut hs (cne _ _ e)⟩
  · obtain ⟨p1, p2, p3, p4⟩ := I.pin p hp
    exact ⟨(hs.2 _ p3).trans p1, p2, p3, p4⟩
  · refine (I.hok b ob e).stay (fun c w' hc q => (hs.2 c ?_).trans q) (fun _ q => q) fun _ _ q => q
    rintro rfl
    rcases hc with z | hc
    · rw [← z, I.free] at e; cases e
    · rw [I.free] at hc; cases hc
end
end L2
set_option Elab.async false
set_option linter.all false
set_option maxRecDepth 100000
namespace L2
open PySem PySem.Spec PyProof.Rows
section
variable {M : Model} {A : Around} {E : Value → Shared → Prop} {h : Heap} {g : Array GenState} {d : Drawn} {t : Nat} {os : OsState} {a C C' : Addr} {oe : Obj} {bm bm' : List Value}
theorem exc_N {Q : Bool → Shared → Prop} (x : EcH h C bm) (x' : EcH h C' bm') (he : h.get? a = some oe) (hc : oe.cls = .ref C) (hb : (Value.ref C :: bm).contains (.ref C') = true)
    (hq : Q true ⟨h, g, d, t, os⟩) : wpAny M A (excMatches (.ref a) (.ref C')) Q E ⟨h, g, d, t, os⟩ := by
  have hcB : (Value.ref C' :: bm').contains (.type "BaseException") = true := x'.has (by decide +kernel)
  have f := tc_notTuple
  obtain ⟨N, nm, q, bs, hdct, sn, sub, ab, col, dd, k0, k1, k2, k3, k5, mN, hC', _⟩ := id x'
  unfold excMatches
  repeat (first | (with_reducible refine wpAny_loadPart_at he ?_; rw [hc]) | with_reducible refine wpAny_loadPart_at hC' ?_ | (with_reducible refine sub_N x' ?_; rw [hcB]) | (with_reducible refine sub_N x ?_; rw [hb]) | wp_step)
  exact hq
end
abbrev TB := Ends → XK → St → Hp → Prop
def FX (X : Cx) (pins : List (Addr × Obj)) (σ : St) (EX : XK) (e : Value) (s' : Shared) : Prop := ∃ (H0 : Hp) (s1 : Shared), Inv X pins σ H0 s1 ∧ CX1 X.prog X.w X.stack H0 s1 EX e s'
def PB (X : Cx) (st : List Stmt) (t : TB) : Prop :=
  ∀ (pins : List (Addr × Obj)) (s : Shared) (σ : St) (H : Hp) (D : Ends) (EX : XK), Inv X pins σ H s → t D EX σ H → wpAny (model X.prog X.w) X.A (execs st X.env) (SP X pins D) (FX X pins σ EX) s
section
variable {X : Cx} {k : Nat} {f : Addr} {fd : FuncData} {ps : List Str} {sp : Sp} {dvs : List V} {ds : List Value} {x : Str} {p pos apos : Pos} {e : Expr} {es : List Expr} {t : TA}
theorem call_fx {pins : List (Addr × Obj)} {σ : St} {H : Hp} {s : Shared} {Q : VK} {EX : XK} (F : FnOk X.prog X.w X.K X.mg X.base (CX1 X.prog X.w) k f fd ps sp) (hr : Room k X.A) (hg : Gl X x) (hm : X.mg x = some (.ref f)) (hk : PySem.W.keepIn X.K (.ref f) = true) (hb : Binds X.K fd ps ds) (hd : Vals dvs ds)
    (ha : PA X.nox (e :: es) t) (hdb : (x == ("__debug__" : Str)) = false) (he : starEach (e :: es) X.env = (false, eval e X.env) :: starEach es X.env) (hpl : (backTo pos (starEach es X.env)).any (·.1) = false)
    (I : Inv X pins σ H s) (h : tCall sp dvs EX t σ H Q) : wpAny (model X.prog X.w) X.A (eval (.Call (.Name x p) (e :: es) [] pos) X.env) (EP X pins σ Q) (FX X pins σ EX) s := by
  refine wpAny_Call_Name_kw (ld_glob I hg hm ?_ hdb)
  refine PySem.W.callWith_K (h₀ := X.base) I.ok.mod.kin hk (wpAny_mono (ha pos pins s σ H _ (I.wish _) h) (fun us s1 ⟨vs, H1, I1', r, q⟩ => ⟨I1'.kIn, ?_⟩) fun _ _ z => False.elim z) he hpl
  have I1 : Inv X pins σ H1 s1 := I1'.unwish
  have r2 : Vals (vs ++ dvs) (us ++ ds) := r.append hd
  have hl : (us ++ ds).length = ps.length := by rw [← r2.length]; exact F.len _ _ _ _ q
  refine wpAny_call (codeAny_mono (F.run X.A X.stack s1 H1 ⟨us, []⟩ (us ++ ds) (vs ++ dvs) Q EX hr I1.env0 (hb s1 us I1.kIn hl) r2 q) fun r s' hq => ?_)
  cases r with
  | error e => exact ⟨H1, s1, I1, hq⟩
  | ok fl =>
    cases fl with
    | ret u => exact I1.after hq
    | next => exact False.elim hq
    | brk => exact False.elim hq
    | cont => exact False.elim hq
def tbCall (sp : Sp) (dvs : List V) (t : TA) : TB := fun D EX σ H => tCall sp dvs EX t σ H fun _ H2 => D.nx σ H2
def tbSet (i : Nat) (sp : Sp) (dvs : List V) (t : TA) : TB := fun D EX σ H => tCall sp dvs EX t σ H fun v H2 => D.nx (σ.set i (some v)) H2
theorem pb_call {pos' : Pos} (F : FnOk X.prog X.w X.K X.mg X.base (CX1 X.prog X.w) k f fd ps sp) (hr : Room k X.A) (hg : Gl X x) (hm : X.mg x = some (.ref f)) (hk : PySem.W.keepIn X.K (.ref f) = true) (hb : Binds X.K fd ps ds) (hd : Vals dvs ds)
    (ha : PA X.nox (e :: es) t) (hdb : (x == ("__debug__" : Str)) = false := by decide) (he : starEach (e :: es) X.env = (false, eval e X.env) :: starEach es X.env := by rfl) (hpl : (backTo pos (starEach es X.env)).any (·.1) = false := by rfl)
    (hs : swapsWith (.Call (.Name x p) (e :: es) [] pos) none pos'.line X.env = pure false := by rfl) : PB X [.Expr (.Call (.Name x p) (e :: es) [] pos) pos'] (tbCall sp dvs t) := by
  intro pins s σ H D EX I h
  refine wpAny_execs_cons (wpAny_Expr_any (thn (call_fx F hr hg hm hk hb hd ha hdb he hpl I h) fun v s1 hx9 => ?_) I.quiet hs)
  obtain ⟨x, H1, I1, r1, q1⟩ := hx9
  exact wpAny_execs_nil ⟨σ, H1, I1, q1⟩
theorem pb_set {i : Nat} {y : Str} {py pos' : Pos} (F : FnOk X.prog X.w X.K X.mg X.base (CX1 X.prog X.w) k f fd ps sp) (hr : Room k X.A) (hg : Gl X x) (hm : X.mg x = some (.ref f)) (hk : PySem.W.keepIn X.K (.ref f) = true) (hb : Binds X.K fd ps ds) (hd : Vals dvs ds)
    (ha : PA X.nox (e :: es) t) (hN : X.N.Nodup) (hi : X.N[i]? = some y) (hy : Loc X.env.scope y) (hdb : (x == ("__debug__" : Str)) = false := by decide) (he : starEach (e :: es) X.env = (false, eval e X.env) :: starEach es X.env := by rfl) (hpl : (backTo pos (starEach es X.env)).any (·.1) = false := by rfl)
    (hs : swapsWith (.Call (.Name x p) (e :: es) [] pos) (some (.Name y py)) pos'.line X.env = pure false := by rfl) (hf : X.fn y = true ∨ X.env.scope.names.lookup y = some .local := by first | exact .inl rfl | exact .inr rfl | assumption) :
    PB X [.Assign [.Name y py] (.Call (.Name x p) (e :: es) [] pos) pos'] (tbSet i sp dvs t) := by
  intro pins s σ H D EX I h
  refine wpAny_execs_cons (wpAny_Assign_Name (thn (call_fx F hr hg hm hk hb hd ha hdb he hpl I h) fun v s1 hx9 => ?_) hs)
  obtain ⟨x, H1, I1, r1, q1⟩ := hx9
  exact store_ok I1 hN hi hy r1 (fun s2 I2 => wpAny_execs_nil ⟨_, H1, I2, q1⟩) hf
def tTry (X : Cx) (C' : Addr) (i j : Nat) (tb : TB) : TS := fun D σ H => tb D (fun cls _ H2 => ∃ C bm, cls = .ref C ∧ (∀ h : Heap, X.K.In h → EcH h C bm) ∧ (Value.ref C :: bm).contains (.ref C') = true ∧ ∀ a, H2 a = none → D.nx ((σ.set i (some (.ref a))).set j none) (upd H2 a (ExO C a))) σ H
theorem ps_try {st : List Stmt} {tb : TB} {dn en cn : Str} {p1 p2 p3 p4 p5 p6 : Pos} {i j : Nat} {C' L : Addr} {bm' : List Value} (hb : PB X st tb) (hst : X.stack = X.env :: X.outer) (hf : X.env.frame = some L) (hex : X.ex = [])
    (hg : Gl X dn) (hm : X.mg dn = some (.ref C')) (hC' : ∀ h : Heap, X.K.In h → EcH h C' bm') (hN : X.N.Nodup) (hi : X.N[i]? = some cn) (hj : X.N[j]? = some en) (hij : i ≠ j) (hlc : X.env.scope.names.lookup cn = some .local) (hle : X.env.scope.names.lookup en = some .local)
    (hdb : (dn == ("__debug__" : Str)) = false := by decide) (hd2 : (en == ("__debug__" : Str)) = false := by decide) (hcd : (en == ("__classdict__" : Str)) = false := by decide)
    (hs : swapsWith (.Name en p3) (some (.Name cn p2)) p4.line X.env = pure false := by rfl) :
    PS X (.Try st [.ExceptHandler (some (.Name dn p1)) (some en) [.Assign [.Name cn p2] (.Name en p3) p4] p5] [] [] p6) (tTry X C' i j tb) := by
  intro pins s σ H D I h
  refine wpAny_Try_except (wpAny_mono (hb pins s σ H D _ I h) (fun f s1 q => ?_) fun e s1 q => ?_)
  · cases f with
    | next => exact wpAny_execs_nil q
    | ret v => exact q
    | brk => exact q
    | cont => exact q
  obtain ⟨H0, s0, I0, q⟩ := q
  refine wpAny_mono (cx1_note (F := X.xe) hst hf I.ok.frames I0 q) (fun _ s2 q2 => wpAny_mono q2 (fun _ s3 q3 => ?_) fun _ _ z => z) fun _ _ z => z
  obtain ⟨a, _, _, rfl, _⟩ := I0.caught q3
  -- the clause is looked at with the exception held
  have okY : ({ X with A := X.A.mark (some (.ref a)), calm := false, xe := fun _ _ => False } : Cx).Ok :=
    ⟨I.ok.mod, I.ok.kind, I.ok.glob, I.ok.blt, I.ok.above, I.ok.inj, I.ok.has, I.ok.cab, fun z => Bool.noConfusion (show false = true from z), I.ok.frames, I.ok.stk, I.ok.exf, I.ok.bs, I.ok.bsz, I.ok.noex, I.ok.exfs, I.ok.funs, I.ok.frf⟩
  have toY : ∀ {σ' : St} {H' : Hp} {s' : Shared}, Inv X pins σ' H' s' → Inv { X with A := X.A.mark (some (.ref a)), calm := false, xe := fun _ _ => False } pins σ' H' s' := fun J => ⟨okY, J.os, J.bare, J.base, J.loc, J.cell, J.free, J.freeC, J.pin, J.hok, J.len⟩
  have ofY : ∀ {σ' : St} {H' : Hp} {s' : Shared}, Inv { X with A := X.A.mark (some (.ref a)), calm := false, xe := fun _ _ => False } pins σ' H' s' → Inv X pins σ' H' s' := fun J => ⟨I.ok, J.os, J.bare, J.base, J.loc, J.cell, J.free, J.freeC, J.pin, J.hok, J.len⟩
  refine wpAny_handleBy_cons (codeAny_handlers_test ?_) (by intro q; cases q)
  obtain ⟨a', C, H3, ea, I3, na, hHa, ⟨C1, bm, eC, hEc, hcon, _⟩, o, ho, hc⟩ := I0.caught q3
  cases ea
  cases eC
  refine ld_glob (X := { X with A := X.A.mark (some (.ref a)), calm := false, xe := fun _ _ => False }) (toY I3) hg hm ?_ hdb
  obtain ⟨hh, gg, dd, tt, oo⟩ := s3
  refine exc_N (hEc _ I3.kIn) (hC' _ I3.kIn) ho hc hcon ?_
  show codeAny _ _ _ _ _
  refine codeAny_handlers_suite_as ?_
  refine wpAny_mono (cx1_set (F := fun _ _ => False) I0 q3) (fun _ s4 q4 => ?_) fun _ _ z => False.elim z
  obtain ⟨a', C, H4, ea, I4, na, hHa, ⟨C1, bm, eC, hEc, hcon, hnx⟩, o, ho, hc⟩ := I0.caught q4
  cases ea
  cases eC
  have old : ∀ b o, s0.heap.get? b = some o → b ≠ a := fun b o e z => by rw [z, na] at e; cases e
  have I5 : Inv X pins σ (upd H4 a (ExO C a)) s4 := by
    refine I4.trackN ⟨⟨o, ho, hc⟩, ⟨o, ho⟩, fun h1 h2 ⟨o1, e1, c1⟩ k => ⟨o1, k o1 e1, c1⟩⟩ hHa ?_ ?_ (fun y c e => ?_) fun p hp => ?_
    · obtain ⟨m, ⟨oL, _, _, hoL, _⟩, _⟩ := I0.loc
      exact Ne.symm (old _ _ hoL)
    · cases z : X.s₀.heap.get? a with
      | none => rfl
      | some o' =>
        obtain ⟨o2, e⟩ := I0.base.there a o' z (by rw [hex]; simp)
        exact absurd rfl (old _ _ e)
    · obtain ⟨v, oc, hoc, _⟩ := I0.cell y c e
      exact old _ _ hoc
    · exact old _ _ (I0.pin p hp).1
  refine store_ok2 (i := j) (v := .ref a) I5 hN hj (.inl hle) rfl (fun s5 I6 _ => ?_) (.inr hle)
  have P1 : PSs { X with A := X.A.mark (some (.ref a)), calm := false, xe := fun _ _ => False } [.Assign [.Name cn p2] (.Name en p3) p4] (tAsg (tVar j) (gName i)) := pss_one (ps_set hN hi (.inl hlc) (pe_var hj (.inl hle) hd2 hcd) hs (.inr hlc))
  have jl : j < σ.length := by rw [I4.len]; exact (List.getElem?_eq_some_iff.mp hj).1
  refine wpAny_mono (P1 pins s5 _ _ { nx := fun σ' H' => σ' = (σ.set j (some (.ref a))).set i (some (.ref a)) ∧ H' = upd H4 a (ExO C a), rt := fun _ _ => False } (toY I6) ⟨.ref a, List.getElem?_set_self jl, rfl, rfl⟩) (fun fl s6 q6 => ?_) fun _ _ z => False.elim z
  cases fl with
  | next =>
    obtain ⟨σ', H', I7, rfl, rfl⟩ := q6
    refine goes_ok (ofY I7) hN hj hle fun s8 I8 => ⟨_, _, I8, ?_⟩
    have := hnx a hHa
    rw [List.set_comm _ _ hij.symm, List.set_set]
    exact this
  | ret v => obtain ⟨_, _, _, _, _, z⟩ := q6; exact z.elim
  | brk => obtain ⟨_, _, _, z⟩ := q6; exact z.elim
  | cont => obtain ⟨_, _, _, z⟩ := q6; exact z.elim
end
end L2
set_option Elab.async false
set_option linter.all false
set_option maxRecDepth 100000
namespace L2
open PySem PySem.Spec PyProof.Rows
theorem bools_mem {bs : List Bool} : ∀ {us : List Value}, Vals (bs.map V.bl) us → us = bs.map Value.bool := by
  induction bs with
  | nil => intro us r; rw [List.map_nil] at r; cases r; rfl
  | cons b bs ih =>
    intro us r
    rw [List.map_cons] at r
    cases r with
    | cons r1 r2 =>
      have e : _ = Value.bool b := r1
      rw [List.map_cons, ← ih r2, e]
theorem eq_bools {bs : List Bool} {k : Bool} {y : Value} (hy : y ∈ bs.map Value.bool) (A : Around) (s : Shared) : SeqAt.EqAt A s y (.bool k) (isBoolOf k y) := by
  obtain ⟨b, _, rfl⟩ := List.mem_map.mp hy
  exact SeqAt.EqAt.bool_bool b k
section
variable {X : Cx} {K : PySem.W.Frag}
theorem mt_countLB (hK : X.K = K) : MtR X "list.count" (fun x vs H Q => ∃ (a : Addr) (bs : List Bool) (k : Bool), x = .ref a ∧ vs = [.bl k] ∧ SqL K H a (bs.map V.bl) ∧ Q (.int (bs.count k : Nat)) H) := by
  subst hK
  intro pins s σ H x xs v us Q I rx r h
  obtain ⟨a, bs, k, rfl, rfl, ha, q⟩ := h
  obtain ⟨u, rfl, e⟩ := vals1 r
  cases e
  cases rx
  obtain ⟨its, rv, ⟨⟨cls, dd, data, sl⟩, n, ho, hc, hdd, hd⟩, hzz⟩ := I.list ha
  simp only at hc hd
  subst hc hd
  obtain rfl := bools_mem rv
  refine call_meets PySem.F.slot_list_count ⟨_, ho, rfl⟩ PySem.F.entry_list_count (PySem.F.args_list_count_2 _ _) (SeqAt.list_countAt a (bs.map Value.bool).toArray n dd sl (.bool k) (isBoolOf k)) ⟨ho, fun y hy => eq_bools (by simpa using hy) _ _, ?_⟩
  have e : ((bs.map Value.bool).toArray.toList.countP (isBoolOf k)) = bs.count k := by
    rw [List.toList_toArray, List.countP_map]
    rfl
  rw [e]
  exact ⟨.int _, H, I.tok _, ⟨_, rfl⟩, q⟩
theorem mt_indexLB (hK : X.K = K) : MtR X "list.index" (fun x vs H Q => ∃ (a : Addr) (bs : List Bool) (k : Bool) (j : Nat), x = .ref a ∧ vs = [.bl k] ∧ SqL K H a (bs.map V.bl) ∧ bs[j]? = some k ∧ (∀ m, m < j → bs[m]? ≠ some k) ∧ Q (.int (j : Nat)) H) := by
  subst hK
  intro pins s σ H x xs v us Q I rx r h
  obtain ⟨a, bs, k, j, rfl, rfl, ha, hj, hno, q⟩ := h
  obtain ⟨u, rfl, e⟩ := vals1 r
  cases e
  cases rx
  obtain ⟨its, rv, ⟨⟨cls, dd, data, sl⟩, n, ho, hc, hdd, hd⟩, hzz⟩ := I.list ha
  simp only at hc hd
  subst hc hd
  obtain rfl := bools_mem rv
  have hjl : j < bs.length := (List.getElem?_eq_some_iff.mp hj).1
  have hzl : bs.length ≤ sizeLine := by rw [List.length_map] at hzz; exact hzz
  have val : ∀ m (hm : m < (bs.map Value.bool).toArray.size), isBoolOf k (bs.map Value.bool).toArray[m] = decide (bs[m]? = some k) := fun m hm => by
    have hmn : m < bs.length := by simpa using hm
    have e : (bs.map Value.bool).toArray[m] = Value.bool bs[m] := by simp
    rw [e, List.getElem?_eq_getElem hmn]
    unfold isBoolOf
    by_cases z : bs[m] = k
    · simp [z]
    · simp [z]
  refine call_meets PySem.F.slot_list_index ⟨_, ho, rfl⟩ PySem.F.entry_list_index (PySem.F.args_list_index_2 _ _) (SeqAt.list_indexAt a (bs.map Value.bool).toArray n dd sl (.bool k) (isBoolOf k) j (by simp; omega) (by rw [sizeLine_eq] at hzl; omega) ?_ ?_) ⟨ho, fun y hy => eq_bools (by simpa using hy) _ _, ?_⟩
  · rw [val, hj]; simp
  · intro m hm hlt
    rw [val]
    exact decide_eq_false (hno m hlt)
  · exact ⟨.int _, H, I.tok _, ⟨_, rfl⟩, q⟩
end
end L2
set_option Elab.async false
set_option linter.all false
set_option maxRecDepth 100000
namespace L2
open PySem PySem.Spec PyProof.Rows
structure PEo (X : Cx) (e : Expr) (t : TE) : Prop where
  go : PE X e t
structure PAo (X : Cx) (es : List Expr) (t : TA) : Prop where
  go : PA X es t
structure PSo (X : Cx) (st : Stmt) (t : TS) : Prop where
  go : PS X st t
structure PSso (X : Cx) (sts : List Stmt) (t : TS) : Prop where
  go : PSs X sts t
section
variable {X : Cx} {pos : Pos} {e a b : Expr} {es : List Expr} {te ta tb : TE} {t : TA} {st : Stmt} {rest : List Stmt} {ts us : TS}
theorem pao_nil : PAo X [] tNil := ⟨pa_nil⟩
theorem pao_cons (h : PEo X e te) (r : PAo X es t) (hs : starEach (e :: es) X.env = (false, eval e X.env) :: starEach es X.env) : PAo X (e :: es) (tCons te t) := ⟨pa_cons h.go r.go hs⟩
theorem peo_str {x j} : PEo X (.Constant (.str x) j pos) (tC (.str x)) := ⟨pe_str⟩
theorem peo_lst (h : PAo X es t) : PEo X (.List es pos) (tLst t) := ⟨pe_lst h.go⟩
theorem peo_op {op : Operator} {r : R2} (ho : OpR X (binaryOp op) r) (ha : PEo X a ta) (hb : PEo X b tb) : PEo X (.BinOp a op b pos) (tOp r ta tb) := ⟨pe_op ho ha.go hb.go⟩
theorem psso_one (h : PSo X st ts) : PSso X [st] ts := ⟨pss_one h.go⟩
theorem psso_cons (h : PSo X st ts) (r : PSso X rest us) : PSso X (st :: rest) (tSeq ts us) := ⟨pss_cons h.go r.go⟩
theorem pso_set {i : Nat} {x : Str} {pos' : Pos} (hN : X.N.Nodup) (hi : X.N[i]? = some x) (hx : Loc X.env.scope x) (he : PEo X e te) (hs : swapsWith e (some (.Name x pos')) pos.line X.env = pure false := by rfl) (hf : X.fn x = true ∨ X.env.scope.names.lookup x = some .local := by first | exact .inl rfl | exact .inr rfl | assumption) :
    PSo X (.Assign [.Name x pos'] e pos) (tAsg te (gName i)) := ⟨ps_set hN hi hx he.go hs hf⟩
end
end L2
set_option Elab.async false
set_option linter.all false
set_option maxRecDepth 100000
namespace L2
open PySem PySem.Spec PyProof.Rows
def tDt (K : PySem.W.Frag) (Z : List Addr) (S : St → Prop) (d : PyData) : TE := fun σ H Q => S σ ∧ Fx Z H ∧ ∀ v H', Same H H' → Den K (Vw Z H') d v → Q v H'
def tDA (K : PySem.W.Frag) (Z : List Addr) (S : St → Prop) (ds : List PyData) : TA := fun σ H Q => S σ ∧ Fx Z H ∧ ∀ vs H', Same H H' → DenAll K (Vw Z H') ds vs → Q vs H'
structure Dt (X : Cx) (K : PySem.W.Frag) (Z : List Addr) (S : St → Prop) (e : Expr) (d : PyData) : Prop where
  go : PE X e (tDt K Z S d)
structure DA (X : Cx) (K : PySem.W.Frag) (Z : List Addr) (S : St → Prop) (es : List Expr) (ds : List PyData) : Prop where
  go : PA X es (tDA K Z S ds)
section
variable {X : Cx} {K : PySem.W.Frag} {Z : List Addr} {S : St → Prop} {te : TE} {pos : Pos} {e a b : Expr} {es : List Expr} {d : PyData} {ds : List PyData}
theorem PE.imp {t t' : TE} (h : PE X e t) (q : ∀ σ H Q, t' σ H Q → t σ H Q) : PE X e t' := fun pins s σ H Q I z => h pins s σ H Q I (q σ H Q z)
theorem PA.imp {t t' : TA} (h : PA X es t) (q : ∀ σ H Q, t' σ H Q → t σ H Q) : PA X es t' := fun pos pins s σ H Q I z => h pos pins s σ H Q I (q σ H Q z)
theorem da_nil : DA X K Z S [] [] := ⟨pa_nil.imp fun σ H Q h => h.2.2 [] H (Same.refl H) (denAll_nil.mpr rfl)⟩
theorem da_cons (h : Dt X K Z S e d) (r : DA X K Z S es ds) (hs : starEach (e :: es) X.env = (false, eval e X.env) :: starEach es X.env) : DA X K Z S (e :: es) (d :: ds) :=
  ⟨(pa_cons h.go r.go hs).imp fun σ H Q h => ⟨h.1, h.2.1, fun v H1 s1 hd => ⟨h.1, h.2.1.same s1, fun vs H2 s2 hds => h.2.2 (v :: vs) H2 (s1.trans s2) (denAll_cons.mpr ⟨v, vs, rfl, (Vw.same s2).den _ _ hd, hds⟩)⟩⟩⟩
theorem dt_int {i j} : Dt X K Z S (.Constant (.int i) j pos) (.int i) := ⟨pe_int.imp fun σ H Q h => h.2.2 _ H (Same.refl H) (den_int.mpr rfl)⟩
theorem dt_bl {i j} : Dt X K Z S (.Constant (.bool i) j pos) (.bool i) := ⟨pe_bl.imp fun σ H Q h => h.2.2 _ H (Same.refl H) (den_bool.mpr rfl)⟩
theorem dt_non {j} : Dt X K Z S (.Constant .none j pos) .none := ⟨pe_non.imp fun σ H Q h => h.2.2 _ H (Same.refl H) (den_none.mpr rfl)⟩
theorem dt_str {x j} : Dt X K Z S (.Constant (.str x) j pos) (.str x) := ⟨pe_str.imp fun σ H Q h => h.2.2 _ H (Same.refl H) (den_str.mpr rfl)⟩
theorem dt_neg {i j p} : Dt X K Z S (.UnaryOp .USub (.Constant (.int i) j p) pos) (.int (-i)) := ⟨(pe_un un_neg pe_int).imp fun σ H Q h => ⟨i, rfl, h.2.2 _ H (Same.refl H) (den_int.mpr rfl)⟩⟩
theorem small_len {vs : List V} {H : Hp} (h : DenAll K H ds vs) (hz : ds.length ≤ 1000) : vs.length ≤ sizeLine := by rw [denAll_length h, sizeLine_eq]; omega
theorem dt_tup {k} (h : DA X K Z S es ds) (hz : ds.length ≤ 1000 := by decide) : Dt X K Z S (.Tuple es k pos) (.tuple ds) :=
  ⟨(pe_tup h.go).imp fun σ H Q h => ⟨h.1, h.2.1, fun vs H1 s1 hds => ⟨small_len hds hz, fun p hp => h.2.2 _ _ (s1.trans (Same.new hp)) (den_tuple.mpr ⟨p, vs, rfl, SqT.of (Vw.at (h.2.1.same s1) hp), (Vw.same (Same.new hp)).denAll _ _ hds⟩)⟩⟩⟩
theorem dt_lst (h : DA X K Z S es ds) (hz : ds.length ≤ 1000 := by decide) : Dt X K Z S (.List es pos) (.list ds) :=
  ⟨(pe_lst h.go).imp fun σ H Q h => ⟨h.1, h.2.1, fun vs H1 s1 hds => ⟨small_len hds hz, fun p hp => h.2.2 _ _ (s1.trans (Same.new hp)) (den_list.mpr ⟨p, vs, rfl, SqL.of (Vw.at (h.2.1.same s1) hp), (Vw.same (Same.new hp)).denAll _ _ hds⟩)⟩⟩⟩
theorem denAll_rep {H : Hp} {xs : List V} (h : DenAll K H ds xs) : ∀ n, DenAll K H (List.replicate n ds).flatten (List.replicate n xs).flatten
  | 0 => denAll_nil.mpr rfl
  | n + 1 => by
    rw [List.replicate_succ, List.replicate_succ, List.flatten_cons, List.flatten_cons]
    exact denAll_append h (denAll_rep h n)
theorem dt_rep {n : Int} {j} {p2 : Pos} (hK : X.K = K) (h : Dt X K Z S e (.tuple ds)) (h1 : 1 < n := by decide) (h2 : n ≤ 1000 := by decide) (hz : ds.length ≤ 1000 := by decide) : Dt X K Z S (.BinOp e .Mult (.Constant (.int n) j p2) pos) (.tuple (List.replicate n.toNat ds).flatten) :=
  ⟨(pe_op (op_repT hK) h.go pe_int).imp fun σ H Q h => ⟨h.1, h.2.1, fun v H1 s1 hd => by
    obtain ⟨a, xs, rfl, ha, hds⟩ := den_tuple.mp hd
    refine ⟨a, n, xs, rfl, rfl, Vw.sub.seqT ha, h1, h2, by rw [denAll_length hds]; exact hz, fun p H' s2 hq => h.2.2 _ _ (s1.trans s2) (den_tuple.mpr ⟨p, _, rfl, (h.2.1.same (s1.trans s2)).seqT hq, denAll_rep ((Vw.same s2).denAll _ _ hds) _⟩)⟩⟩⟩
theorem dt_val {t : TE} {v : V} (h : PE X e t) (q : ∀ σ H Q, S σ → Q v H → t σ H Q) (hd : ∀ H, Den K H d v) : Dt X K Z S e d := ⟨h.imp fun σ H Q z => q σ H Q z.1 (z.2.2 v H (Same.refl H) (hd _))⟩
def tLs (K : PySem.W.Frag) (Z : List Addr) (S : St → Prop) (ds : List PyData) : TE := fun σ H Q => S σ ∧ Fx Z H ∧ ∀ p xs H', Same H H' → H p = none → H' p = some (.lst xs) → DenAll K (Vw Z H') ds xs → Q (.ref p) H'
theorem ls_lst (h : DA X K Z S es ds) (hz : ds.length ≤ 1000 := by decide) : PE X (.List es pos) (tLs K Z S ds) :=
  (pe_lst h.go).imp fun σ H Q h => ⟨h.1, h.2.1, fun vs H1 s1 hds => ⟨small_len hds hz, fun p hp => h.2.2 p vs _ (s1.trans (Same.new hp)) (s1.free hp) upd_same ((Vw.same (Same.new hp)).denAll _ _ hds)⟩⟩
theorem PSso.ex {sts : List Stmt} {t : TS} {R : TS → Prop} (h : PSso X sts t) (r : R t) : ∃ t, PSs X sts t ∧ R t := ⟨t, h.go, r⟩
theorem lso_lst (h : DA X K Z S es ds) (hz : ds.length ≤ 1000) : PEo X (.List es pos) (tLs K Z S ds) := ⟨ls_lst h hz⟩
theorem peo_v {i : Nat} {x : Str} (h : PE X (.Name x pos) (tVar i)) : PEo X (.Name x pos) (tVar i) := ⟨h⟩
end
end L2
set_option Elab.async false
set_option linter.all false
set_option maxRecDepth 100000
namespace L2
open PySem PySem.Spec PyProof.Rows
section
variable {X : Cx} {tg l : Expr} {body : List Stmt} {tl : TE} {g : TG} {tb : TS} {pos : Pos}
theorem fs_list {es : List Expr} {p : Pos} {env : Env} : ∀ x, foldedSetIterable (.List es p) env x = pure x := fun _ => rfl
theorem pso_forList (hp : PassesOwn (model X.prog X.w) X.A X.env X.xe) (hc : X.calm = true) (hl : PEo X l tl) (hg : PG X tg g) (hb : PSso X body tb) (hs : ∀ x, foldedSetIterable l X.env x = pure x) :
    PSo X (.For tg l body [] pos) (tFor (iList X.K tl) g tb) := ⟨ps_for hp hc (pi_list hl.go) hg hb.go hs⟩
end
theorem dens_of {K : PySem.W.Frag} {H : Hp} : ∀ {xs : List V}, (∀ x ∈ xs, ∃ d, Den K H d x) → ∃ ds, DenAll K H ds xs
  | [], _ => ⟨[], denAll_nil.mpr rfl⟩
  | x :: r, h => by
    obtain ⟨d, hd⟩ := h x (List.mem_cons_self ..)
    obtain ⟨ds, hds⟩ := dens_of (xs := r) fun y hy => h y (List.mem_cons_of_mem _ hy)
    exact ⟨d :: ds, denAll_cons.mpr ⟨x, r, rfl, hd, hds⟩⟩
theorem den_each {K : PySem.W.Frag} {H : Hp} {ds : List PyData} {xs : List V} (h : DenAll K H ds xs) : ∀ x ∈ xs, ∃ d, Den K H d x := fun x hx => by
  obtain ⟨i, hi⟩ := List.mem_iff_getElem?.mp hx
  obtain ⟨d, _, hd⟩ := denAll_at h hi
  exact ⟨d, hd⟩
end L2
set_option Elab.async false
set_option linter.all false
set_option maxRecDepth 100000
namespace L2
open PySem PySem.Spec PyProof.Rows
def isStrKey (e : DictEntry) : Bool := match e.key with
  | .str _ _ => true
  | _ => false
def ecB (K : PySem.W.Frag) (C : Addr) (bm : List Value) : Bool := match K.lookup C with
  | some ⟨.type "type", _, .cls cd, sl⟩ => (match sl.toList with
    | [_, _, _, _, some (.builtin n), _] => n == "ValueError.__new__" && cd.mro == .ref C :: bm && !cd.hasDel && (match K.lookup cd.ns with
      | some ⟨_, _, .dict es _, _⟩ => es.toList.all isStrKey && qns.all (fun n => (es.toList.find? (·.key.isStr n)).isNone)
      | _ => false)
    | _ => false)
  | _ => false
theorem ec_of {K : PySem.W.Frag} {h : Heap} {C : Addr} {bm : List Value} (X : K.In h) (q : ecB K C bm = true) : ∃ N nm qn bs hdct sn sub ab col dd k0 k1 k2 k3 k5 mN,
    h.get? C = some (excClassObj nm qn C N bs bm hdct sn sub ab col dd k0 k1 k2 k3 k5 "ValueError.__new__") ∧ h.Ns N mN ∧ ∀ n ∈ qns, mN n = none := by
  unfold ecB at q
  split at q
  · rename_i dd cd sl ho
    split at q
    · rename_i k0 k1 k2 k3 n k5 hs
      split at q
      · rename_i c1 d1 es ep s1 hN
        simp only [Bool.and_eq_true, beq_iff_eq, Bool.not_eq_true', List.all_eq_true, Option.isNone_iff_eq_none] at q
        obtain ⟨⟨⟨rfl, hm⟩, hdel⟩, hk, hq⟩ := q
        obtain ⟨nm, bs, mro, ns, qn, hd, sn, sub, ab, col, del⟩ := cd
        dsimp only at hm hdel hN
        subst hm hdel
        have hsl : sl = #[k0, k1, k2, k3, some (.builtin "ValueError.__new__"), k5] := by
          obtain ⟨l⟩ := sl
          simp only at hs
          rw [hs]
        subst hsl
        refine ⟨ns, nm, qn, bs, hd, sn, sub, ab, col, dd, k0, k1, k2, k3, k5, nsFind es, X _ _ ho, ⟨_, es, ep, X _ _ hN, rfl, fun e he => ?_, fun _ => rfl⟩, fun n hn => ?_⟩
        · have := hk e (Array.mem_toList_iff.mpr he)
          unfold isStrKey at this
          split at this
          · rename_i a b e; exact ⟨a, b, e⟩
          · cases this
        · have := hq n hn
          unfold nsFind findBy
          rw [← Array.find?_toList, this]
          rfl
      · simp at q
    · cases q
  · cases q
theorem ecH_base {K : PySem.W.Frag} {C : Addr} (q : ecB K C vbm = true) (h : Heap) (X : K.In h) : EcH h C vbm := by
  obtain ⟨N, nm, qn, bs, hdct, sn, sub, ab, col, dd, k0, k1, k2, k3, k5, mN, h1, h2, h3⟩ := ec_of X q
  exact ⟨N, nm, qn, bs, hdct, sn, sub, ab, col, dd, k0, k1, k2, k3, k5, mN, h1, h2, h3, .base⟩
theorem ecH_own {K : PySem.W.Frag} {C D : Addr} (qD : ecB K D vbm = true) (q : ecB K C (.ref D :: vbm) = true) (h : Heap) (X : K.In h) : EcH h C (.ref D :: vbm) := by
  obtain ⟨N, nm, qn, bs, hdct, sn, sub, ab, col, dd, k0, k1, k2, k3, k5, mN, h1, h2, h3⟩ := ec_of X q
  obtain ⟨_, _, _, _, _, _, _, _, _, _, _, _, _, _, _, mD, e1, e2, e3⟩ := ec_of X qD
  exact ⟨N, nm, qn, bs, hdct, sn, sub, ab, col, dd, k0, k1, k2, k3, k5, mN, h1, h2, h3, .own e1 e2 e3 .base⟩
end L2
set_option Elab.async false
set_option linter.all false
set_option maxRecDepth 100000
namespace L2
open PySem PySem.Spec PyProof.Rows
section
variable {prog : Program} {w : World} {A : Around} {E : Value → Shared → Prop} {s : Shared}
end
end L2
set_option Elab.async false
set_option linter.all false
set_option maxRecDepth 100000
namespace L2
open PySem PySem.Spec PyProof.Rows
theorem ints_vals : ∀ {vs : List Value} {ns : List Int}, Vals (ns.map V.int) vs → IntsAre vs ns
  | [], [], _ => .nil
  | v :: vs, n :: ns, h => by
    cases h with
    | cons r t =>
      obtain ⟨k, rfl⟩ := r
      exact .cons n k (ints_vals t)
  | [], n :: ns, h => by cases h
  | v :: vs, [], h => by cases h
section
variable {X : Cx}
end
end L2
set_option Elab.async false
set_option linter.all false
set_option maxRecDepth 100000
namespace L2
open PySem PySem.Spec PyProof.Rows
section
variable {prog : Program} {w : World} {A : Around} {E : Value → Shared → Prop} {s : Shared} {e it l : Addr} {n : Nat} {P : Nat → Value → Prop} {st : Nat → Heap → Prop}
end
section
variable {X : Cx} {es : List Expr} {x1 : Nat} {tpos : Pos}
end
end L2
set_option Elab.async false
set_option linter.all false
set_option maxRecDepth 100000
namespace L2
open PySem PySem.Spec PyProof.Rows
theorem le1000 {n : Nat} (h : n ≤ 1000) : n ≤ sizeLine := by rw [sizeLine_eq]; omega
section
variable {own : Nat} {fr : List Nat} {g : TG} {te : TE} {σ : St} {H : Hp} {Qf : Hp → List V → Prop} {K : PySem.W.Frag}
theorem take_at {vs : List V} {i : Nat} {v : V} (h : vs[i]? = some v) : vs.take (i + 1) = vs.take i ++ [v] := by rw [List.take_succ, h]; rfl
theorem comp_fn {J : It} {n : Nat} {vs : List V} (SH : St → Prop) (hn : n ≤ 1000) (hl : vs.length = n) (hσ : SH (blk own fr σ)) (hstop : ∀ H', Same H H' → J.stop n H') (hgo : ∀ i H', i < n → Same H H' → J.go i H')
    (hs : ∀ i v x σ H1 H2, i < n → vs[i]? = some v → SH σ → Same H H1 → J.yld i H1 x H2 → ∀ Q : V → St → Hp → Prop, (∀ σ2 H4, SH σ2 → Same H1 H4 → Q v σ2 H4) → g x σ H2 fun σ2 H3 => te σ2 H3 fun y H4 => Q y σ2 H4)
    (hd : ∀ H', Same H H' → Qf H' vs) :
    ∃ W : Nat → Nat → List V → St → Hp → Prop, (∃ m, W 0 m [] (blk own fr σ) H) ∧ ∀ i m ys σ' H, W i m ys σ' H →
      (J.stop i H ∧ Qf H ys) ∨
      (J.go i H ∧ ∃ N : List V → St → Hp → Prop, (∀ ys' σ2 H2, N ys' σ2 H2 → ∃ m', m' < m ∧ W (i + 1) m' ys' σ2 H2) ∧
        ∀ x H', J.yld i H x H' → g x σ' H' fun σ2 H2 => tAll σ2 H2 fun b H3 => if b = true then te σ2 H3 fun y H4 => ys.length < sizeLine ∧ N (ys ++ [y]) σ2 H4 else N ys σ2 H3) := by
  refine comp_it n (le1000 hn) SH (fun i ys H' => ys = vs.take i ∧ Same H H') hσ ⟨rfl, Same.refl H⟩ (fun i ys H' p => by rw [p.1, List.length_take]; omega) (fun ys H' p => hstop H' p.2) (fun i ys H' hi p => hgo i H' hi p.2) ?_ (fun ys H' p => ?_)
  · rintro i ys σ' x H1 H2 hi sh ⟨rfl, s1⟩ hy hz
    have hv : vs[i]? = some vs[i] := List.getElem?_eq_getElem (by omega)
    have h := hs i vs[i] x σ' H1 H2 hi hv sh s1 hy (fun y σ2 H4 => (vs.take i).length < sizeLine ∧ SH σ2 ∧ (vs.take i ++ [y] = vs.take (i + 1) ∧ Same H H4)) fun σ2 H4 sh2 s4 => ⟨hz, sh2, (take_at hv).symm, s1.trans s4⟩
    exact h
  · obtain ⟨rfl, s1⟩ := p
    rw [List.take_of_length_le (by omega)]
    exact hd H' s1
theorem comp_fnL {a : Addr} {xs vs : List V} (SH : St → Prop) (hn : xs.length ≤ 1000) (hl : vs.length = xs.length) (ha : SqL K H a xs) (hσ : SH (blk own fr σ))
    (hs : ∀ (i : Nat) x v σ H1, xs[i]? = some x → vs[i]? = some v → SH σ → Same H H1 → ∀ Q : V → St → Hp → Prop, (∀ σ2 H4, SH σ2 → Same H1 H4 → Q v σ2 H4) → g x σ H1 fun σ2 H2 => te σ2 H2 fun y H4 => Q y σ2 H4)
    (hd : ∀ H', Same H H' → Qf H' vs) :
    ∃ W : Nat → Nat → List V → St → Hp → Prop, (∃ m, W 0 m [] (blk own fr σ) H) ∧ ∀ i m ys σ' H, W i m ys σ' H →
      ((Itl K a).stop i H ∧ Qf H ys) ∨
      ((Itl K a).go i H ∧ ∃ N : List V → St → Hp → Prop, (∀ ys' σ2 H2, N ys' σ2 H2 → ∃ m', m' < m ∧ W (i + 1) m' ys' σ2 H2) ∧
        ∀ x H', (Itl K a).yld i H x H' → g x σ' H' fun σ2 H2 => tAll σ2 H2 fun b H3 => if b = true then te σ2 H3 fun y H4 => ys.length < sizeLine ∧ N (ys ++ [y]) σ2 H4 else N ys σ2 H3) := by
  refine comp_fn SH hn hl hσ (fun H' s => ⟨xs, s.seqL ha, Nat.le_refl _⟩) (fun i H' hi s => ⟨xs, xs[i], s.seqL ha, List.getElem?_eq_getElem hi⟩) (fun i v x σ H1 H2 hi hv sh s y Q k => ?_) hd
  obtain ⟨e, y⟩ := y
  subst e
  exact hs i x v σ _ (y xs (s.seqL ha)) hv sh s Q k
theorem comp_fnT {a : Addr} {xs vs : List V} (SH : St → Prop) (hn : xs.length ≤ 1000) (hl : vs.length = xs.length) (ha : SqT K H a xs) (hσ : SH (blk own fr σ))
    (hs : ∀ (i : Nat) x v σ H1, xs[i]? = some x → vs[i]? = some v → SH σ → Same H H1 → ∀ Q : V → St → Hp → Prop, (∀ σ2 H4, SH σ2 → Same H1 H4 → Q v σ2 H4) → g x σ H1 fun σ2 H2 => te σ2 H2 fun y H4 => Q y σ2 H4)
    (hd : ∀ H', Same H H' → Qf H' vs) :
    ∃ W : Nat → Nat → List V → St → Hp → Prop, (∃ m, W 0 m [] (blk own fr σ) H) ∧ ∀ i m ys σ' H, W i m ys σ' H →
      ((Itt K a).stop i H ∧ Qf H ys) ∨
      ((Itt K a).go i H ∧ ∃ N : List V → St → Hp → Prop, (∀ ys' σ2 H2, N ys' σ2 H2 → ∃ m', m' < m ∧ W (i + 1) m' ys' σ2 H2) ∧
        ∀ x H', (Itt K a).yld i H x H' → g x σ' H' fun σ2 H2 => tAll σ2 H2 fun b H3 => if b = true then te σ2 H3 fun y H4 => ys.length < sizeLine ∧ N (ys ++ [y]) σ2 H4 else N ys σ2 H3) := by
  refine comp_fn SH hn hl hσ (fun H' s => ⟨xs, s.seqT ha, Nat.le_refl _⟩) (fun i H' hi s => ⟨xs, xs[i], s.seqT ha, List.getElem?_eq_getElem hi⟩) (fun i v x σ H1 H2 hi hv sh s y Q k => ?_) hd
  obtain ⟨e, y⟩ := y
  subst e
  exact hs i x v σ _ (y xs (s.seqT ha)) hv sh s Q k
end
end L2
set_option Elab.async false
set_option linter.all false
set_option maxRecDepth 100000
namespace L2
open PySem PySem.Spec PyProof.Rows
section
variable {X : Cx} {st : Stmt} {rest : List Stmt} {t u : TS} {e : Expr} {te : TE} {tt : TT}
end
section
variable {X : Cx} {K : PySem.W.Frag}
theorem op_neDK (hK : X.K = K) (hu : X.A.units + 64 < cLine) : OpR X (compareOp .NotEq) (fun x y H Q => ∃ d e, Den K H d x ∧ Den K H e y ∧ noDict d = true ∧ noDict e = true ∧ SeqAt.shaped d = true ∧ SeqAt.shaped e = true ∧ Q (.bl (!PyData.eqv d e)) H) := by subst hK; exact op_neD hu
theorem pi_listK {tg l : Expr} {tl : TE} (hK : X.K = K) (hl : PE X l tl) : PI X tg l (iList K tl) := by subst hK; exact pi_list hl
end
end L2
set_option Elab.async false
set_option linter.all false
set_option maxRecDepth 100000
namespace L2
open PySem PySem.Spec PyProof.Rows
section
variable {X : Cx}
end
section
variable {K : PySem.W.Frag} {S : List Addr} {H H' H0 : Hp} {E E' : Hp → V → Prop} {σ : St} {te ta tb ts : TE} {t tr : TA} {tl th : TO}
instance {a : Addr} {xs : List V} : Mo (fun H v => v = .ref a ∧ SqT K (Vw S H) a xs) := ⟨fun e h => ⟨h.1, (Vw.same e).seqT h.2⟩⟩
end
end L2
set_option Elab.async false
set_option linter.all false
set_option maxRecDepth 100000
namespace L2
open PySem PySem.Spec PyProof.Rows
section
variable {prog : Program} {w : World} {A : Around} {R : Result → Shared → Prop} {s : Shared} {elt tg iter tg2 iter2 : Expr} {scope : Scope} {pos : Pos} {it acc : Value} {env : Env}
theorem compTurn_two0 : compTurn (.ListComp elt [⟨tg, iter, [], 0⟩, ⟨tg2, iter2, [], 0⟩] scope pos) 0 it acc env = (standAt iter.pos >>= fun _ => pyNext it >>= fun r => match r with
      | none => pure (.done .next)
      | some v => letOwnedTupleGo tg it v >>= fun _ => assign tg env v >>= fun _ =>
        (eval iter2 env >>= fun x => standAt iter2.pos >>= fun _ => foldedSetIterable iter2 env x >>= fun x => holding [x] (pyIter x) >>= fun i =>
          runOwn (.compStart (.ListComp elt [⟨tg, iter, [], 0⟩, ⟨tg2, iter2, [], 0⟩] scope pos) 1 i acc env) env >>= fun _ =>
          again (.compLoop (.ListComp elt [⟨tg, iter, [], 0⟩, ⟨tg2, iter2, [], 0⟩] scope pos) 0 it acc env))) := by rfl
theorem compTurn_two1 : compTurn (.ListComp elt [⟨tg, iter, [], 0⟩, ⟨tg2, iter2, [], 0⟩] scope pos) 1 it acc env = (standAt iter2.pos >>= fun _ => pyNext it >>= fun r => match r with
      | none => pure (.done .next)
      | some v => letOwnedTupleGo tg2 it v >>= fun _ => assign tg2 env v >>= fun _ =>
        (eval elt env >>= fun x => call (.builtin "list.append") [acc, x] >>= fun _ => pure ()) >>= fun _ =>
          again (.compLoop (.ListComp elt [⟨tg, iter, [], 0⟩, ⟨tg2, iter2, [], 0⟩] scope pos) 1 it acc env)) := by rfl
theorem codeAny_compStart_two
    (h0 : codeAny (model prog w) A (.compLoop (.ListComp elt [⟨tg, iter, [], 0⟩, ⟨tg2, iter2, [], 0⟩] scope pos) 1 it acc env) R s)
    (h : wpAny (model prog w) A (pyIter it) (fun it' s' => codeAny (model prog w) A (.compLoop (.ListComp elt [⟨tg, iter, [], 0⟩, ⟨tg2, iter2, [], 0⟩] scope pos) 1 it' acc env) R s')
      (notedBy (model prog w) A env fun x s' => R (.error x) s') s) :
    codeAny (model prog w) A (.compStart (.ListComp elt [⟨tg, iter, [], 0⟩, ⟨tg2, iter2, [], 0⟩] scope pos) 1 it acc env) R s := by
  refine codeAny_of_tree ?_
  show wpAny _ _ ((compStart (.ListComp elt [⟨tg, iter, [], 0⟩, ⟨tg2, iter2, [], 0⟩] scope pos) 1 it acc env).onRaise (fun x => do noteFrame x env; standAt theWindowsPlace)) _ _ s
  refine wpAny_notedAt ?_
  unfold compStart
  show wpAny _ _ (ask >>= _) _ _ s
  refine wpAny_bind (wpAny_askSetting (wpAny_ite ?_))
  split
  · first
      | exact wpAny_bind (wpAny_pure (wpAny_pure (And.intro rfl h0)))
      | exact wpAny_pure (And.intro rfl h0)
  · first
      | exact wpAny_bind (wpAny_rule (wpAny_bind (wpAny_standAt (wpAny_bind (wpAny_mono h (fun it' s' h' => wpAny_pure (And.intro rfl h')) fun _ _ x => x)))))
      | (refine wpAny_bind (wpAny_rule ?_); show wpAny _ _ (standAt iter2.pos >>= _) _ _ s; exact wpAny_bind (wpAny_standAt (wpAny_bind (wpAny_mono h (fun it' s' h' => wpAny_pure (And.intro rfl h')) fun _ _ x => x))))
theorem compLoop_in (I : Nat → Shared → Prop)
    (turn : ∀ n s, I n s → wpAny (model prog w) A (pyNext it) (fun r s₁ => match r with
      | none => R (.ok .next) s₁
      | some v => wpAny (model prog w) A (letOwnedTupleGo tg2 it v) (fun _ s₁' => wpAny (model prog w) A (assign tg2 env v) (fun _ s₂ =>
          wpAny (model prog w) A (eval elt env) (fun x s₄ =>
              wpAny (model prog w) A (call (.builtin "list.append") [acc, x]) (fun _ s₅ => ∃ m, m < n ∧ I m s₅) (fun _ _ => False) s₄) (fun _ _ => False) s₂) (fun _ _ => False) s₁') (fun _ _ => False) s₁) (fun _ _ => False) s)
    (n : Nat) (h : I n s) :
    codeAny (model prog w) A (.compLoop (.ListComp elt [⟨tg, iter, [], 0⟩, ⟨tg2, iter2, [], 0⟩] scope pos) 1 it acc env) R s := by
  refine codeAny_loop rfl I (fun n s hI => ?_) n h
  show wpAny _ A ((compTurn (.ListComp elt [⟨tg, iter, [], 0⟩, ⟨tg2, iter2, [], 0⟩] scope pos) 1 it acc env).onRaise (fun x => do noteFrame x env; theTreesLotGoes x)) _ _ s
  refine wpAny_noted ?_
  rw [compTurn_two1]
  refine wpAny_bind (wpAny_standAt (wpAny_bind (wpAny_mono (turn n s hI) (fun r s₁ h₁ => ?_) fun _ _ h' => h'.elim)))
  cases r with
  | none => exact wpAny_pure h₁
  | some v =>
    refine wpAny_bind (wpAny_mono h₁ (fun _ s₁' h₁' => ?_) fun _ _ h' => h'.elim)
    refine wpAny_bind (wpAny_mono h₁' (fun _ s₂ h₂ => ?_) fun _ _ h' => h'.elim)
    exact wpAny_bind (wpAny_bind (wpAny_mono h₂ (fun x s₄ h₄ => wpAny_bind (wpAny_mono h₄ (fun _ s₅ h₅ => wpAny_pure (wpAny_pure ⟨rfl, h₅⟩)) fun _ _ h' => h'.elim)) fun _ _ h' => h'.elim))
theorem compLoop_out (hs2 : ∀ x, foldedSetIterable iter2 env x = pure x) (I : Nat → Shared → Prop)
    (turn : ∀ n s, I n s → wpAny (model prog w) A (pyNext it) (fun r s₁ => match r with
      | none => R (.ok .next) s₁
      | some v => wpAny (model prog w) A (letOwnedTupleGo tg it v) (fun _ s₁' => wpAny (model prog w) A (assign tg env v) (fun _ s₂ =>
          wpAny (model prog w) A (eval iter2 env) (fun x s₃ => wpAny (model prog w) A (pyIter x) (fun i s₄ =>
              codeAny (model prog w) A (.compStart (.ListComp elt [⟨tg, iter, [], 0⟩, ⟨tg2, iter2, [], 0⟩] scope pos) 1 i acc env) (fun r s₅ => match r with
                | .ok _ => ∃ m, m < n ∧ I m s₅
                | .error _ => False) s₄) (fun _ _ => False) s₃) (fun _ _ => False) s₂) (fun _ _ => False) s₁') (fun _ _ => False) s₁) (fun _ _ => False) s)
    (n : Nat) (h : I n s) :
    codeAny (model prog w) A (.compLoop (.ListComp elt [⟨tg, iter, [], 0⟩, ⟨tg2, iter2, [], 0⟩] scope pos) 0 it acc env) R s := by
  refine codeAny_loop rfl I (fun n s hI => ?_) n h
  show wpAny _ A ((compTurn (.ListComp elt [⟨tg, iter, [], 0⟩, ⟨tg2, iter2, [], 0⟩] scope pos) 0 it acc env).onRaise (fun x => do noteFrame x env; theTreesLotGoes x)) _ _ s
  refine wpAny_noted ?_
  rw [compTurn_two0]
  refine wpAny_bind (wpAny_standAt (wpAny_bind (wpAny_mono (turn n s hI) (fun r s₁ h₁ => ?_) fun _ _ h' => h'.elim)))
  cases r with
  | none => exact wpAny_pure h₁
  | some v =>
    refine wpAny_bind (wpAny_mono h₁ (fun _ s₁' h₁' => ?_) fun _ _ h' => h'.elim)
    refine wpAny_bind (wpAny_mono h₁' (fun _ s₂ h₂ => ?_) fun _ _ h' => h'.elim)
    refine wpAny_bind (wpAny_mono h₂ (fun x s₃ h₃ => ?_) fun _ _ h' => h'.elim)
    refine wpAny_bind (wpAny_standAt (wpAny_bind (wpAny_of_eq (hs2 x) (wpAny_bind (wpAny_holding (wpAny_mono h₃ (fun i s₄ h₄ => ?_) fun _ _ h' => h'.elim))))))
    refine wpAny_bind (wpAny_runOwn (codeAny_mono h₄ fun r s₅ h₅ => ?_))
    cases r with
    | ok f => exact wpAny_pure ⟨rfl, h₅⟩
    | error e => exact False.elim h₅
end
end L2
set_option Elab.async false
set_option linter.all false
set_option maxRecDepth 100000
namespace L2
open PySem PySem.Spec PyProof.Rows
theorem comp_inner {Y : Cx} {elt tg iter tg2 iter2 : Expr} {scope : Scope} {pos : Pos} {it2 D : Addr} {fp2 : List Addr} {tn2 : Nat → Heap → Prop} {J2 : It} {g2 : TG} {te : TE} {ps : List (Addr × Obj)} {σ : St} {H : Hp} {s : Shared} {zs : List V} {its : Array Value} {o : Obj} {F : List V → St → Hp → Prop} {R : Result → Shared → Prop}
    (hx : ∀ v s', ¬ Y.xe v s') (hc : Y.calm = true) (T : Turn Y.prog Y.w Y.K tg2 J2 fp2 it2 tn2) (hg : PG Y tg2 g2) (he : PE Y elt te)
    (hDL : D ≠ Y.env.locals) (hD1 : D ∈ Y.ex ∨ Y.s₀.heap.objs.size ≤ D) (hDc : ∀ x c, Y.env.cells.lookup x = some c → c ≠ D) (hDp : ∀ p ∈ Y.pn, p.1 ≠ D) (hDfs : D ∉ Y.fs) (hps : ∀ p ∈ ps, p.1 ≠ D)
    (I0 : Inv Y ((D, o) :: ps) σ H s) (pl0 : s.heap.PlainList D its) (v0 : Vals zs its.toList) (z0 : zs.length ≤ sizeLine) (st0 : tn2 0 s.heap) (f0 : ∀ b ∈ fp2, FpOk Y ((D, o) :: ps) H b)
    (w : ∃ W2 : Nat → Nat → List V → St → Hp → Prop, (∃ m2, W2 0 m2 zs σ H) ∧ ∀ j m2 zs σ3 H4, W2 j m2 zs σ3 H4 → (J2.stop j H4 ∧ F zs σ3 H4) ∨ (J2.go j H4 ∧ ∃ N2 : List V → St → Hp → Prop, (∀ zs' σ4 H5, N2 zs' σ4 H5 → ∃ m3, m3 < m2 ∧ W2 (j + 1) m3 zs' σ4 H5) ∧
      ∀ x H', J2.yld j H4 x H' → g2 x σ3 H' fun σ4 H5 => te σ4 H5 fun y H6 => zs.length < sizeLine ∧ N2 (zs ++ [y]) σ4 H6))
    (hR : ∀ (s' : Shared) (σ' : St) (H' : Hp) (zs' : List V) (its' : Array Value) (o' : Obj), Inv Y ((D, o') :: ps) σ' H' s' → s'.heap.PlainList D its' → Vals zs' its'.toList → zs'.length ≤ sizeLine → F zs' σ' H' → R (.ok .next) s') :
    codeAny (model Y.prog Y.w) Y.A (.compStart (.ListComp elt [⟨tg, iter, [], 0⟩, ⟨tg2, iter2, [], 0⟩] scope pos) 1 (.ref it2) (.ref D) Y.env) R s := by
  obtain ⟨W2, ⟨m0, w0⟩, turn⟩ := w
  have stat : ∀ {H' : Hp} {o' : Obj}, (∀ b ∈ fp2, H' b = none) → ∀ b ∈ fp2, FpOk Y ((D, o') :: ps) H' b := fun {H' o'} hn b hb => by
    obtain ⟨_, q1, q2, q3, q4, q5⟩ := f0 b hb
    refine ⟨hn b hb, q1, q2, q3, q4, fun p hp => ?_⟩
    rcases List.mem_append.mp hp with h | h
    · exact q5 p (List.mem_append_left _ h)
    · rcases List.mem_cons.mp h with h | h
      · rw [h]; exact q5 (D, o) (List.mem_append_right _ (List.mem_cons_self ..))
      · exact q5 p (List.mem_append_right _ (List.mem_cons_of_mem _ h))
  have loop : codeAny (model Y.prog Y.w) Y.A (.compLoop (.ListComp elt [⟨tg, iter, [], 0⟩, ⟨tg2, iter2, [], 0⟩] scope pos) 1 (.ref it2) (.ref D) Y.env) R s := by
    refine compLoop_in (fun n s' => ∃ j σ' H' ys its o, Inv Y ((D, o) :: ps) σ' H' s' ∧ s'.heap.PlainList D its ∧ Vals ys its.toList ∧ ys.length ≤ sizeLine ∧ tn2 j s'.heap ∧ (∀ b ∈ fp2, H' b = none) ∧ W2 j n ys σ' H') ?_ m0
      ⟨0, σ, H, zs, its, o, I0, pl0, v0, z0, st0, fun b hb => (f0 b hb).1, w0⟩
    rintro n s5 ⟨i, σ5, H5, ys, its, o, I5, pl5, v5, z5, st5, fr5, w5⟩
    have p5' := I5.pin (D, o) (List.mem_append_right _ (List.mem_cons_self ..))
    rcases turn i n ys σ5 H5 w5 with ⟨stop, qn⟩ | ⟨go, N, hN, step⟩
    · refine wpAny_mono (T.done Y rfl rfl rfl hc i _ s5 σ5 H5 (fun _ _ => False) I5 (stat fr5) st5 stop) (fun r s6 hx9 => ?_) fun _ _ z => z
      obtain ⟨hr, I6⟩ := hx9
      subst hr
      have p6 := I6.pin (D, o) (List.mem_append_right _ (List.mem_cons_self ..))
      have pl6 : s6.heap.PlainList D its := by
        obtain ⟨k, e⟩ := pl5
        have e1 : o = _ := Option.some.inj (p5'.1.symm.trans e)
        exact ⟨k, by rw [p6.1]; exact congrArg some e1⟩
      exact hR s6 σ5 H5 ys its o I6 pl6 v5 z5 qn
    · refine wpAny_mono (T.item Y rfl rfl rfl hc i _ s5 σ5 H5 (fun _ _ => False) I5 (stat fr5) st5 go) (fun r s6 hx9 => ?_) fun _ _ z => z
      obtain ⟨u, hr, h6⟩ := hx9
      subst hr
      refine wpAny_mono h6 (fun _ s7 hx9 => ?_) fun _ _ z => z
      obtain ⟨x, H7, I7, r7, y7, st7, fr7⟩ := hx9
      have I7' := I7.pinned (stat fr7) (T.obj _ _ st7)
      refine wpAny_mono (hg _ s7 σ5 H7 x u _ I7' r7 (step x H7 y7)) (fun _ s8 hx9 => ?_) fun v s' z => hx v s' z
      obtain ⟨σ8, H8, I8, q8⟩ := hx9
      have keepT : ∀ {H' : Hp} {s' : Shared} {σ' : St}, Inv Y (((D, o) :: ps) ++ pinsAt fp2 s7.heap) σ' H' s' → tn2 (i + 1) s'.heap ∧ (∀ b ∈ fp2, H' b = none) ∧ s'.heap.PlainList D its ∧ H' D = none := fun {H' s' σ'} I' => by
        refine ⟨T.keep _ _ _ st7 fun b hb o e => (I'.pin (b, o) (List.mem_append_right _ (List.mem_append_right _ (mem_pinsAt hb e)))).1, fun b hb => ?_, ?_, ?_⟩
        · obtain ⟨o, e, d⟩ := T.obj _ _ st7 b hb
          exact (I'.pin (b, o) (List.mem_append_right _ (List.mem_append_right _ (mem_pinsAt hb e)))).2.1
        · have p' := I'.pin (D, o) (List.mem_append_right _ (List.mem_append_left _ (List.mem_cons_self ..)))
          obtain ⟨k, e⟩ := pl5
          have e1 : o = _ := Option.some.inj (p5'.1.symm.trans e)
          exact ⟨k, by rw [p'.1]; exact congrArg some e1⟩
        · exact (I'.pin (D, o) (List.mem_append_right _ (List.mem_append_left _ (List.mem_cons_self ..)))).2.1
      refine wpAny_mono (he _ s8 σ8 H8 _ I8 q8) (fun y s10 hx9 => ?_) fun v s' z => hx v s' z
      obtain ⟨yv, H10, I10, r10, lt10, q10⟩ := hx9
      obtain ⟨t10, fr10, pl10, hD10⟩ := keepT I10
      have hl := v5.length
      refine wpAny_list_append_plain pl10 (fun h11 pl11 sb11 => ?_) (by rw [← Array.length_toList, ← hl]; exact Nat.le_of_lt lt10)
      obtain ⟨m', hm, w'⟩ := hN _ σ8 H10 q10
      have I10' : Inv Y [] σ8 H10 s10 := I10.pins_of fun p hp => by cases hp
      have I11 : Inv Y [] σ8 H10 { s10 with heap := h11 } :=
        I10'.turned (t' := s10.toks) (it := D) (fun b o hb e => (sb11.2 b hb).trans e) hD10 hDL hD1 hDc (fun p hp => by rw [List.append_nil] at hp; exact hDp p hp)
      obtain ⟨k11, e11⟩ := id pl11
      refine ⟨m', hm, i + 1, σ8, H10, ys ++ [yv], its.push y, { cls := .type "list", data := .seq (its.push y) k11 }, I11.pins_of fun p hp => ?_, pl11, ?_, by rw [List.length_append]; show ys.length + 1 ≤ _; omega, T.keep _ _ _ t10 fun b hb o e => (sb11.2 b (fun z => ?_)).trans e, fr10, w'⟩
      · rcases List.mem_cons.mp hp with h | h
        · subst h
          exact ⟨e11, hD10, hDL, hDfs, fun v z => by cases z⟩
        · obtain ⟨a1, a2, a3, a4, a5⟩ := I10.pin p (List.mem_append_right _ (List.mem_append_left _ (List.mem_cons_of_mem _ h)))
          exact ⟨(sb11.2 p.1 (hps p h)).trans a1, a2, a3, a4, a5⟩
      · rw [Array.toList_push]
        exact v5.append (.cons r10 .nil)
      · exact (f0 b hb).2.2.2.2.2 (D, _) (List.mem_append_right _ (List.mem_cons_self ..)) z.symm
  exact codeAny_compStart_two loop (T.self Y.A 0 _ _ _ st0 loop)
end L2
set_option Elab.async false
set_option linter.all false
set_option maxRecDepth 100000
namespace L2
open PySem PySem.Spec PyProof.Rows
def tComp2 (own : Nat) (fr : List Nat) (wi : TI) (g : TG) (wi2 : TI) (g2 : TG) (te : TE) : TE := fun σ H Q => wi σ H fun J H1 => ∃ W : Nat → Nat → List V → St → Hp → Prop, (∃ m, W 0 m [] (blk own fr σ) H1) ∧ ∀ i m ys σ' H, W i m ys σ' H →
      (J.stop i H ∧ ∀ p, H p = none → Q (.ref p) (upd H p (.lst ys))) ∨
      (J.go i H ∧ ∃ N : List V → St → Hp → Prop, (∀ ys' σ2 H2, N ys' σ2 H2 → ∃ m', m' < m ∧ W (i + 1) m' ys' σ2 H2) ∧
        ∀ x H', J.yld i H x H' → g x σ' H' fun σ2 H2 => wi2 σ2 H2 fun J2 H3 => ∃ W2 : Nat → Nat → List V → St → Hp → Prop, (∃ m2, W2 0 m2 ys σ2 H3) ∧ ∀ j m2 zs σ3 H4, W2 j m2 zs σ3 H4 → (J2.stop j H4 ∧ N zs σ3 H4) ∨ (J2.go j H4 ∧ ∃ N2 : List V → St → Hp → Prop, (∀ zs' σ4 H5, N2 zs' σ4 H5 → ∃ m3, m3 < m2 ∧ W2 (j + 1) m3 zs' σ4 H5) ∧
          ∀ x H', J2.yld j H4 x H' → g2 x σ3 H' fun σ4 H5 => te σ4 H5 fun y H6 => zs.length < sizeLine ∧ N2 (zs ++ [y]) σ4 H6))
section
variable {X : Cx} {scope : Scope} {own frn : List Str} {fr : List Nat} {elt tg iter tg2 iter2 : Expr} {pos : Pos} {wi wi2 : TI} {g g2 : TG} {te : TE}
theorem comp_block2 {pins : List (Addr × Obj)} {σ : St} {H2 : Hp} {s2 : Shared} {it : Addr} {fp : List Addr} {tn : Nat → Heap → Prop} {J : It} {RR : Value → Addr → Result → Shared → Prop} {E : Value → Shared → Prop} {Q : Hp → List V → Prop}
    (S : CompOk X scope own fr frn) (hc : X.calm = true) (I2 : Inv X pins σ H2 s2) (T : Turn X.prog X.w X.K tg J fp it tn) (st2 : tn 0 s2.heap) (f2 : ∀ b ∈ fp, FpOk X pins H2 b)
    (hg : ∀ C s0 H0 fp, PG (cxComp X scope (own ++ frn) C s0 H0 fp) tg g) (hi2 : ∀ C s0 H0 fp, PI (cxComp X scope (own ++ frn) C s0 H0 fp) tg2 iter2 wi2) (hg2 : ∀ C s0 H0 fp, PG (cxComp X scope (own ++ frn) C s0 H0 fp) tg2 g2) (he : ∀ C s0 H0 fp, PE (cxComp X scope (own ++ frn) C s0 H0 fp) elt te) (hs2 : ∀ C x, foldedSetIterable iter2 (compEnvC scope (clOf X.env scope.names []) C X.env) x = pure x)
    (w : ∃ W : Nat → Nat → List V → St → Hp → Prop, (∃ m, W 0 m [] (blk own.length fr σ) H2) ∧ ∀ i m ys σ' H, W i m ys σ' H →
      (J.stop i H ∧ Q H ys) ∨
      (J.go i H ∧ ∃ N : List V → St → Hp → Prop, (∀ ys' σ2 H2, N ys' σ2 H2 → ∃ m', m' < m ∧ W (i + 1) m' ys' σ2 H2) ∧
        ∀ x H', J.yld i H x H' → g x σ' H' fun σ2 H2 => wi2 σ2 H2 fun J2 H3 => ∃ W2 : Nat → Nat → List V → St → Hp → Prop, (∃ m2, W2 0 m2 ys σ2 H3) ∧ ∀ j m2 zs σ3 H4, W2 j m2 zs σ3 H4 → (J2.stop j H4 ∧ N zs σ3 H4) ∨ (J2.go j H4 ∧ ∃ N2 : List V → St → Hp → Prop, (∀ zs' σ4 H5, N2 zs' σ4 H5 → ∃ m3, m3 < m2 ∧ W2 (j + 1) m3 zs' σ4 H5) ∧
          ∀ x H', J2.yld j H4 x H' → g2 x σ3 H' fun σ4 H5 => te σ4 H5 fun y H6 => zs.length < sizeLine ∧ N2 (zs ++ [y]) σ4 H6)))
    (hRR : ∀ (C D : Addr) (s' : Shared) (H' : Hp) (ys : List V) (its : Array Value) (m : Str → Option Value), s2.heap.objs.size ≤ C → s2.heap.objs.size ≤ D → D ≠ C → s'.heap.Ns C m → H' C = none → H' D = none → s'.heap.PlainList D its → Vals ys its.toList → ys.length ≤ sizeLine →
      Inv X pins σ H' s' → Q H' ys → RR (.ref D) C (.ok .next) s') :
    wpAny (model X.prog X.w) X.A (newList []) (fun acc s₃ => wpAny (model X.prog X.w) X.A (newFunctionEnv scope X.env.globals (clOf X.env scope.names []) [] X.env.qual none .none (some X.env)) (fun cenv s₄ =>
      codeAny (model X.prog X.w) X.A (.compStart (.ListComp elt [⟨tg, iter, [], 0⟩, ⟨tg2, iter2, [], 0⟩] scope pos) 0 (.ref it) acc { cenv with scope := relabel scope X.env }) (RR acc cenv.locals) s₄) E s₃) E s2 := by
  obtain ⟨p1, p2, p3, p4, p5, p6, p7⟩ := S.parts
  obtain ⟨W, ⟨m0, w0⟩, turn⟩ := w
  refine wpAny_newObj_type (wpAny_newFunctionEnv p2 (by intro y hy; simp at hy) (fun h₁ hns₁ hsb₁ => ?_) p1)
  dsimp only at hns₁ hsb₁ ⊢
  generalize hH2 : s2.heap.push { cls := .type "list", dict := none, data := .seq ([] : List Value).toArray } = HD at hns₁ hsb₁ ⊢
  have hCs : HD.objs.size = s2.heap.objs.size + 1 := by rw [← hH2, Heap.size_push]
  have hDC : s2.heap.objs.size ≠ HD.objs.size := by omega
  have hCle : s2.heap.objs.size ≤ HD.objs.size := by omega
  have below : ∀ b, b < s2.heap.objs.size → b ≠ HD.objs.size ∧ b ≠ s2.heap.objs.size := fun b hb => ⟨by omega, by omega⟩
  have old : ∀ b o, s2.heap.get? b = some o → h₁.get? b = some o := fun b o e => hsb₁.extBut b o (below b (Heap.lt_size e)).1 (Heap.get?_push_of_some _ (hH2 ▸ Heap.get?_push_of_some _ e))
  have hacc : h₁.get? s2.heap.objs.size = some { cls := .type "list", data := .seq ([] : List Value).toArray } := hsb₁.extBut _ _ hDC (Heap.get?_push_of_some _ (hH2 ▸ Heap.get?_push_size _ rfl))
  have flt : ∀ b ∈ fp, b < s2.heap.objs.size := fun b hb => by
    obtain ⟨o, e, _⟩ := T.obj _ _ st2 b hb
    exact Heap.lt_size e
  generalize hDg : s2.heap.objs.size = D at *
  generalize hCg : HD.objs.size = C at *
  have st3 : tn 0 h₁ := T.keep _ _ _ st2 fun b _ o e => old b o e
  -- facts of the block
  have clsub : ∀ x c, (clOf X.env scope.names []).lookup x = some c → X.env.cells.lookup x = some c := fun x c e => by
    rcases clOf_mem _ _ _ _ (lookup_memS e) with q | q
    · cases q
    · exact q
  have cD : ∀ x c, (clOf X.env scope.names []).lookup x = some c → c ≠ D := fun x c e z => by
    obtain ⟨v, q⟩ := I2.cell x c (clsub x c e)
    exact Nat.lt_irrefl _ (Nat.lt_of_lt_of_le q.lt (by rw [hDg, z]; exact Nat.le_refl _))
  have loop : ∀ s₃ : Shared, s₃ = { s2 with heap := h₁, toks := s2.toks + ([] : List (Str × Value)).length } →
      codeAny (model X.prog X.w) X.A (.compLoop (.ListComp elt [⟨tg, iter, [], 0⟩, ⟨tg2, iter2, [], 0⟩] scope pos) 0 (.ref it) (.ref D) (compEnvC scope (clOf X.env scope.names []) C X.env)) (RR (.ref D) C) s₃ := by
    rintro s₃ rfl
    have I3 : Inv (cxComp X scope (own ++ frn) C s2 H2 fp) [(D, _)] (blk own.length fr σ) H2 { s2 with heap := h₁, toks := s2.toks + ([] : List (Str × Value)).length } :=
      inv_comp (m := fun _ => none) I2 S f2 (by rw [hDg]; exact flt) (by rw [hDg]; exact hCle) (hns₁ : h₁.Ns C _) old (by rw [hDg]; exact Nat.le_refl _) hDC hacc (fun v z => by cases z)
    have stat : ∀ {H' : Hp} {pl : List (Addr × Obj)}, (∀ p ∈ pl, p.1 = D) → (∀ b ∈ fp, H' b = none) → ∀ b ∈ fp, FpOk (cxComp X scope (own ++ frn) C s2 H2 fp) pl H' b := fun {H' pl} hpl hn b hb => by
      refine ⟨hn b hb, (below b (flt b hb)).1, fun z => ?_, .inl hb, fun x c e => (f2 b hb).2.2.2.2.1 x c (clsub x c e), fun p hp => ?_⟩
      · have z' : b ∈ frs X.stack := z
        rcases List.mem_cons.mp (I2.stkSub b z') with e | e
        · exact (f2 b hb).2.1 e
        · exact (f2 b hb).2.2.1 e
      · have hp' : p ∈ pl := by simpa [cxComp] using hp
        rw [hpl p hp']
        exact Ne.symm (below b (flt b hb)).2
    refine compLoop_out (hs2 C) (env := compEnvC scope (clOf X.env scope.names []) C X.env) (fun n s' => ∃ i σ' H' ys its o, Inv (cxComp X scope (own ++ frn) C s2 H2 fp) [(D, o)] σ' H' s' ∧ s'.heap.PlainList D its ∧ Vals ys its.toList ∧ ys.length ≤ sizeLine ∧ tn i s'.heap ∧ (∀ b ∈ fp, H' b = none) ∧ W i n ys σ' H') ?_ m0
      ⟨0, _, H2, [], #[], _, I3, ⟨_, hacc⟩, .nil, Nat.zero_le _, st3, fun b hb => (f2 b hb).1, w0⟩
    rintro n s5 ⟨i, σ5, H5, ys, its, o, I5, pl5, v5, z5, st5, fr5, w5⟩
    have one : ∀ {o : Obj}, ∀ p ∈ [(D, o)], p.1 = D := fun p hp => by
      have e := List.mem_singleton.mp hp
      rw [e]
    rcases turn i n ys σ5 H5 w5 with ⟨stop, qn⟩ | ⟨go, N, hN, step⟩
    · refine wpAny_mono (T.done (cxComp X scope (own ++ frn) C s2 H2 fp) rfl rfl rfl hc i _ s5 σ5 H5 (fun _ _ => False) I5 (stat one fr5) st5 stop) (fun r s6 hx9 => ?_) fun _ _ z => z
      obtain ⟨hr, I6⟩ := hx9
      subst hr
      obtain ⟨m6, hn6, _⟩ := I6.loc
      have p6 := I6.pin (D, o) (by simp [cxComp])
      have p5' := I5.pin (D, o) (by simp [cxComp])
      have pl6 : s6.heap.PlainList D its := by
        obtain ⟨k, e⟩ := pl5
        have e1 : o = _ := Option.some.inj (p5'.1.symm.trans e)
        exact ⟨k, by rw [p6.1]; exact congrArg some e1⟩
      have IX : Inv X pins σ H5 s6 := I2.call' (ch := fp) I6.os I6.base I6.hok I6.bare fun b hb => ⟨(f2 b hb).2.2.2.1, (f2 b hb).2.1, (f2 b hb).2.2.2.2.1, (f2 b hb).2.2.2.2.2⟩
      exact hRR C D s6 H5 ys its m6 hCle (Nat.le_refl _) hDC hn6 I6.free p6.2.1 pl6 v5 z5 IX qn
    · refine wpAny_mono (T.item (cxComp X scope (own ++ frn) C s2 H2 fp) rfl rfl rfl hc i _ s5 σ5 H5 (fun _ _ => False) I5 (stat one fr5) st5 go) (fun r s6 hx9 => ?_) fun _ _ z => z
      obtain ⟨u, hr, h6⟩ := hx9
      subst hr
      refine wpAny_mono h6 (fun _ s7 hx9 => ?_) fun _ _ z => z
      obtain ⟨x, H7, I7, r7, y7, st7, fr7⟩ := hx9
      have I7' := I7.pinned (stat one fr7) (T.obj _ _ st7)
      refine wpAny_mono (hg C s2 H2 fp _ s7 σ5 H7 x u _ I7' r7 (step x H7 y7)) (fun _ s8 hx9 => ?_) fun _ _ z => z
      obtain ⟨σ8, H8, I8, q8⟩ := hx9
      refine wpAny_mono (hi2 C s2 H2 fp _ s8 σ8 H8 _ I8 q8) (fun v2 s9 h9 => wpAny_mono h9 (fun itv s10 h10 => ?_) fun _ _ z => z) fun _ _ z => z
      obtain ⟨it2, fp2, tn2, J2, H10, e10, I10, T2, st10, f10, w10⟩ := h10
      subst e10
      have DfsX : D ∉ frs X.stack := fun z => by
        rcases List.mem_cons.mp (I2.stkSub D z) with e | e
        · exact Nat.lt_irrefl _ (Nat.lt_of_lt_of_le I2.lt (by rw [hDg, e]; exact Nat.le_refl _))
        · exact I2.nofs (by rw [hDg]; exact Nat.le_refl _) e
      have p5' := I5.pin (D, o) (by simp [cxComp])
      have pl10 : s10.heap.PlainList D its := by
        have p' := I10.pin (D, o) (by simp [cxComp])
        obtain ⟨k, e⟩ := pl5
        have e1 : o = _ := Option.some.inj (p5'.1.symm.trans e)
        exact ⟨k, by rw [p'.1]; exact congrArg some e1⟩
      refine comp_inner (Y := cxComp X scope (own ++ frn) C s2 H2 fp) (ps := pinsAt fp s7.heap) (F := N) (fun _ _ z => z) hc T2 (hg2 C s2 H2 fp) (he C s2 H2 fp) hDC (.inr (by show s2.heap.objs.size ≤ D; rw [hDg]; exact Nat.le_refl _)) cD (fun p hp => by simp [cxComp] at hp) DfsX
        (fun p hp => (below p.1 (flt p.1 (of_pinsAt hp).1)).2) I10 pl10 v5 z5 st10 f10 w10 (fun s' σ' H' zs' its' o' I' pl' v' z' q' => ?_)
      obtain ⟨m', hm, w'⟩ := hN zs' σ' H' q'
      refine ⟨m', hm, i + 1, σ', H', zs', its', o', I'.pins_of fun p hp => ?_, pl', v', z', T.keep _ _ _ st7 fun b hb o e => (I'.pin (b, o) (List.mem_append_right _ (List.mem_cons_of_mem _ (mem_pinsAt hb e)))).1, fun b hb => ?_, w'⟩
      · have e := List.mem_singleton.mp hp
        subst e
        exact I'.pin _ (List.mem_append_right _ (List.mem_cons_self ..))
      · obtain ⟨o, e, d⟩ := T.obj _ _ st7 b hb
        exact (I'.pin (b, o) (List.mem_append_right _ (List.mem_cons_of_mem _ (mem_pinsAt hb e)))).2.1
  exact codeAny_compStart_list (loop _ rfl) (T.self X.A 0 _ _ _ st3 (loop _ rfl))

theorem pe_comp2 (S : CompOk X scope own fr frn) (hc : X.calm = true) (hi : PI X tg iter wi) (hg : ∀ C s0 H0 fp, PG (cxComp X scope (own ++ frn) C s0 H0 fp) tg g) (hi2 : ∀ C s0 H0 fp, PI (cxComp X scope (own ++ frn) C s0 H0 fp) tg2 iter2 wi2) (hg2 : ∀ C s0 H0 fp, PG (cxComp X scope (own ++ frn) C s0 H0 fp) tg2 g2)
    (he : ∀ C s0 H0 fp, PE (cxComp X scope (own ++ frn) C s0 H0 fp) elt te) (hs : ∀ x, foldedSetIterable iter X.env x = pure x := by intro _; rfl) (hs2 : ∀ C x, foldedSetIterable iter2 (compEnvC scope (clOf X.env scope.names []) C X.env) x = pure x := by intro _ _; rfl) :
    PE X (.ListComp elt [⟨tg, iter, [], 0⟩, ⟨tg2, iter2, [], 0⟩] scope pos) (tComp2 own.length fr wi g wi2 g2 te) := by
  intro pins s σ H Q I h
  obtain ⟨p1, p2, p3, p4, p5, p6, p7⟩ := S.parts
  rw [eval_ListComp]
  refine wpAny_comprehension_free (use := none) rfl hs (S.clo I) p1 p3 (thn (hi pins s σ H _ I h) fun v s1 h1 => thn h1 fun itv s2 h2 => ?_)
  obtain ⟨it, fp, tn, J, H2, e, I2, T, st2, f2, hw⟩ := h2
  subst e
  refine comp_block2 (RR := fun acc C => compPost (model X.prog X.w) X.A X.xe none (EP X pins σ Q) acc C) (Q := fun H ys => ∀ p, H p = none → Q (.ref p) (upd H p (.lst ys))) S hc I2 T st2 f2 hg hi2 hg2 he hs2 hw ?_
  intro C D s' H' ys its m hC hD hDC hns hHC hHD pl v z IX q
  have cne : ∀ a, s2.heap.objs.size ≤ a → ∀ x c, X.env.cells.lookup x = some c → c ≠ a := fun a ha x c e z => by
    obtain ⟨v, w⟩ := I2.cell x c e
    exact Nat.lt_irrefl _ (Nat.lt_of_lt_of_le w.lt (by rw [z]; exact ha))
  have pne : ∀ a, s2.heap.objs.size ≤ a → ∀ p ∈ X.pn ++ pins, p.1 ≠ a := fun a ha p hp z => Nat.lt_irrefl _ (Nat.lt_of_lt_of_le (Heap.lt_size (I2.pin p hp).1) (by rw [z]; exact ha))
  have lne : ∀ a, s2.heap.objs.size ≤ a → a ≠ X.env.locals := fun a ha z => Nat.lt_irrefl _ (Nat.lt_of_lt_of_le I2.lt (by rw [← z]; exact ha))
  refine ⟨m, hns, fun h' hs' => ⟨.ref D, upd H' D (.lst ys), ?_, rfl, q D hHD⟩⟩
  have IT : Inv X pins σ (upd H' D (.lst ys)) s' := IX.track pl v z hHD (lne D hD) (Nat.le_trans I2.sz hD) (cne D hD) (pne D hD)
  exact IT.turned (t' := s'.toks) (it := C) (fun b o hb e => (hs'.2 b hb).trans e) (by rw [upd_ne (Ne.symm hDC)]; exact hHC) (lne C hC) (.inr (Nat.le_trans I2.sz hC)) (cne C hC) (pne C hC)

end
end L2
set_option Elab.async false
set_option linter.all false
set_option maxRecDepth 100000
namespace L2
open PySem PySem.Spec PyProof.Rows
section
variable {own : Nat} {fr : List Nat} {g g2 : TG} {wi2 : TI} {te : TE} {σ : St} {H : Hp} {Qf : Hp → List V → Prop} {K : PySem.W.Frag}
def InnerOk (g2 : TG) (te : TE) (SH : St → Prop) (vs : List V) (σ2 : St) (J2 : It) (H4 : Hp) : Prop := ∃ SH2 : St → Prop, SH2 σ2 ∧ (∀ σ3, SH2 σ3 → SH σ3) ∧ (∀ H', Same H4 H' → J2.stop vs.length H') ∧ (∀ j H', j < vs.length → Same H4 H' → J2.go j H') ∧
  ∀ j v y σ3 H5 H6, vs[j]? = some v → SH2 σ3 → Same H4 H5 → J2.yld j H5 y H6 → ∀ Q : V → St → Hp → Prop, (∀ σ4 H7, SH2 σ4 → Same H5 H7 → Q v σ4 H7) → g2 y σ3 H6 fun σ4 H7 => te σ4 H7 fun z H8 => Q z σ4 H8
theorem flat_take {vss : List (List V)} {i : Nat} {vs : List V} (h : vss[i]? = some vs) : (vss.take (i + 1)).flatten = (vss.take i).flatten ++ vs := by
  rw [List.take_succ, h, List.flatten_append]; simp
theorem flat_len {vss : List (List V)} {i : Nat} {vs : List V} (h : vss[i]? = some vs) : (vss.take i).flatten.length + vs.length ≤ vss.flatten.length := by
  have e := congrArg List.flatten (List.take_append_drop (i + 1) vss)
  rw [List.flatten_append, flat_take h] at e
  rw [← e, List.length_append, List.length_append]
  omega
theorem comp2_it {J : It} {n : Nat} {vss : List (List V)} (SH : St → Prop) (hn : vss.flatten.length ≤ 1000) (hl : vss.length = n) (hσ : SH (blk own fr σ)) (hstop : ∀ H', Same H H' → J.stop n H') (hgo : ∀ i H', i < n → Same H H' → J.go i H')
    (hs : ∀ i vs x σ H1 H2, i < n → vss[i]? = some vs → SH σ → Same H H1 → J.yld i H1 x H2 → ∀ P : St → It → Hp → Prop, (∀ σ2 J2 H4, Same H1 H4 → InnerOk g2 te SH vs σ2 J2 H4 → P σ2 J2 H4) → g x σ H2 fun σ2 H3 => wi2 σ2 H3 fun J2 H4 => P σ2 J2 H4)
    (hd : ∀ H', Same H H' → Qf H' vss.flatten) :
    ∃ W : Nat → Nat → List V → St → Hp → Prop, (∃ m, W 0 m [] (blk own fr σ) H) ∧ ∀ i m ys σ' H, W i m ys σ' H →
      (J.stop i H ∧ Qf H ys) ∨
      (J.go i H ∧ ∃ N : List V → St → Hp → Prop, (∀ ys' σ2 H2, N ys' σ2 H2 → ∃ m', m' < m ∧ W (i + 1) m' ys' σ2 H2) ∧
        ∀ x H', J.yld i H x H' → g x σ' H' fun σ2 H2 => wi2 σ2 H2 fun J2 H3 => ∃ W2 : Nat → Nat → List V → St → Hp → Prop, (∃ m2, W2 0 m2 ys σ2 H3) ∧ ∀ j m2 zs σ3 H4, W2 j m2 zs σ3 H4 → (J2.stop j H4 ∧ N zs σ3 H4) ∨ (J2.go j H4 ∧ ∃ N2 : List V → St → Hp → Prop, (∀ zs' σ4 H5, N2 zs' σ4 H5 → ∃ m3, m3 < m2 ∧ W2 (j + 1) m3 zs' σ4 H5) ∧
          ∀ x H', J2.yld j H4 x H' → g2 x σ3 H' fun σ4 H5 => te σ4 H5 fun y H6 => zs.length < sizeLine ∧ N2 (zs ++ [y]) σ4 H6)) := by
  refine ⟨fun i m ys σ' H' => i ≤ n ∧ m = n - i ∧ ys = (vss.take i).flatten ∧ SH σ' ∧ Same H H', ⟨n, Nat.zero_le _, rfl, rfl, hσ, Same.refl H⟩, ?_⟩
  rintro i m ys σ' H1 ⟨hi, rfl, rfl, sh, s1⟩
  by_cases e : i = n
  · subst e
    refine .inl ⟨hstop H1 s1, ?_⟩
    rw [List.take_of_length_le (by omega)]
    exact hd H1 s1
  have hlt : i < n := by omega
  refine .inr ⟨hgo i H1 hlt s1, fun ys' σ2 H2 => ys' = (vss.take (i + 1)).flatten ∧ SH σ2 ∧ Same H H2, fun ys' σ2 H2 ⟨e1, e2, e3⟩ => ⟨n - (i + 1), by omega, by omega, rfl, e1, e2, e3⟩, fun x H2 hy => ?_⟩
  have hv : vss[i]? = some vss[i] := List.getElem?_eq_getElem (by omega)
  have hfl := flat_len hv
  refine hs i vss[i] x σ' H1 H2 hlt hv sh s1 hy _ fun σ2 J2 H4 s4 hx9 => ?_
  obtain ⟨SH2, sh2, hb, st2, go2, step2⟩ := hx9
  refine ⟨fun j m2 zs σ3 H5 => j ≤ (vss[i]).length ∧ m2 = (vss[i]).length - j ∧ zs = (vss.take i).flatten ++ (vss[i]).take j ∧ SH2 σ3 ∧ Same H4 H5, ⟨_, Nat.zero_le _, rfl, by rw [List.take_zero, List.append_nil], sh2, Same.refl _⟩, ?_⟩
  rintro j m2 zs σ3 H5 ⟨hj, rfl, rfl, sh3, s5⟩
  by_cases e2 : j = (vss[i]).length
  · refine .inl ⟨e2 ▸ st2 H5 s5, ?_, hb _ sh3, (s1.trans s4).trans s5⟩
    rw [flat_take hv, show (vss[i]).take j = vss[i] from List.take_of_length_le (by omega)]
  · have hjl : j < (vss[i]).length := by omega
    refine .inr ⟨go2 j H5 hjl s5, fun zs' σ4 H6 => zs' = (vss.take i).flatten ++ (vss[i]).take (j + 1) ∧ SH2 σ4 ∧ Same H4 H6, fun zs' σ4 H6 ⟨q1, q2, q3⟩ => ⟨(vss[i]).length - (j + 1), by omega, by omega, rfl, q1, q2, q3⟩, fun y H6 hy2 => ?_⟩
    have hvj : (vss[i])[j]? = some (vss[i])[j] := List.getElem?_eq_getElem hjl
    refine step2 j _ y σ3 H5 H6 hvj sh3 s5 hy2 _ fun σ4 H7 sh4 s7 => ⟨le1000 (n := ((vss.take i).flatten ++ (vss[i]).take j).length + 1) (by rw [List.length_append, List.length_take]; omega), ?_, sh4, s5.trans s7⟩
    rw [List.take_succ, hvj, ← List.append_assoc]
    rfl
end
section
variable {X : Cx}
theorem any_range (bs : List Bool) (tr : Nat → Bool) (h : ∀ i b, bs[i]? = some b → tr i = b) : (List.range bs.length).any tr = bs.any id := by
  rw [Bool.eq_iff_iff, List.any_eq_true, List.any_eq_true]
  constructor
  · rintro ⟨i, hi, q⟩
    have hi' := List.mem_range.mp hi
    rw [h i _ (List.getElem?_eq_getElem hi')] at q
    exact ⟨_, List.getElem_mem hi', q⟩
  · rintro ⟨b, hb, q⟩
    obtain ⟨i, hi⟩ := List.getElem?_of_mem hb
    exact ⟨i, List.mem_range.mpr (List.getElem?_eq_some_iff.mp hi).1, by rw [h i b hi]; exact q⟩
theorem call_any (hc : X.calm = true) : CallR X (.builtin "any") (fun xs H Q => ∃ (p : Addr) (bs : List Bool), xs = [.ref p] ∧ SqL X.K H p (bs.map V.bl) ∧ Q (.bl (bs.any id)) H) := by
  intro pins s σ H xs us Q I r h
  obtain ⟨p, bs, rfl, hx, q⟩ := h
  obtain ⟨u, rfl, rx⟩ := vals1 r
  cases rx
  obtain ⟨its, rv, pl, hz⟩ := I.list hx
  have hl := rv.length
  rw [List.length_map] at hl
  have hlt : p < s.heap.objs.size := by obtain ⟨o, n, e, _⟩ := pl; exact Heap.lt_size e
  refine call_any_walk (wpAny_pyIter_list pl.isList ?_)
  refine ⟨s.heap.objs.size, _, _, _, _, _, fun i => (bs[i]?).getD false, rfl, Walks.list (A := X.A.in1) (I.ok.hd hc) s.heap.objs.size p (Nat.ne_of_lt hlt) its.toArray, ⟨⟨_, Heap.get?_push_size _ rfl, rfl, rfl⟩, pl.isList.push _⟩, ?_, fun h' tk hk => ?_⟩
  · intro i v s' Q' E' hP hQ'
    have hP' : its[i]? = some v := by simpa using hP
    have hi : i < bs.length := by rw [hl]; exact (List.getElem?_eq_some_iff.mp hP').1
    obtain ⟨w, hw, rw'⟩ := rv.get (i := i) (x := .bl bs[i]) (by rw [List.getElem?_map, List.getElem?_eq_getElem hi]; rfl)
    rw [hw] at hP'
    cases hP'
    cases rw'
    have e : (bs[i]?).getD false = bs[i] := by rw [List.getElem?_eq_getElem hi]; rfl
    rw [← e]
    exact wpAny_truthy_bool hQ'
  · have e : (List.range its.toArray.size).any (fun i => (bs[i]?).getD false) = bs.any id := by
      rw [List.size_toArray, ← hl]
      exact any_range bs _ fun i b hb => by rw [hb]; rfl
    rw [e]
    refine ⟨.bl _, H, I.kept (h' := h') fun b o e => hk b o ?_ (Heap.get?_push_of_some _ e), rfl, q⟩
    intro z
    have z' : b = s.heap.objs.size := by simpa using z
    exact Nat.lt_irrefl _ (z' ▸ Heap.lt_size e)
end
end L2
set_option Elab.async false
set_option linter.all false
set_option maxRecDepth 100000
namespace L2
open PySem PySem.Spec PyProof.Rows

section
variable {κ : Type} [DecidableEq κ]
def valV (kvs : List (κ × V)) (k : κ) : Option V := (kvs.find? fun kv => decide (kv.1 = k)).map (·.2)
def putK (kvs : List (κ × V)) (k : κ) (v : V) : List (κ × V) :=
  if (kvs.any fun kv => decide (kv.1 = k)) = true then kvs.map (fun kv => if kv.1 = k then (kv.1, v) else kv) else kvs ++ [(k, v)]
def dropK (kvs : List (κ × V)) (k : κ) : List (κ × V) := kvs.filter fun kv => decide (kv.1 ≠ k)

theorem valV_pos {p : κ × V} {r : List (κ × V)} {k : κ} (e : p.1 = k) : valV (p :: r) k = some p.2 := by simp [valV, List.find?_cons, e]
theorem valV_neg {p : κ × V} {r : List (κ × V)} {k : κ} (e : ¬ p.1 = k) : valV (p :: r) k = valV r k := by simp [valV, List.find?_cons, e]
theorem valV_any (k : κ) : ∀ kvs : List (κ × V), (kvs.any fun kv => decide (kv.1 = k)) = (valV kvs k).isSome
  | [] => rfl
  | p :: r => by
    rw [List.any_cons]
    by_cases e : p.1 = k
    · simp only [valV_pos e, decide_eq_true e, Bool.true_or, Option.isSome_some]
    · rw [valV_neg e, decide_eq_false e, Bool.false_or]; exact valV_any k r
theorem RelO.isSome_eq {o : Option V} {u : Option Value} (r : RelO o u) : o.isSome = u.isSome := by
  cases o with
  | none => cases u with
    | none => rfl
    | some _ => exact (show False from r).elim
  | some _ => cases u with
    | none => exact (show False from r).elim
    | some _ => rfl
theorem RelO.getD {o : Option V} {u : Option Value} {d : V} {d' : Value} (r : RelO o u) (rd : RelV d d') : RelV (o.getD d) (u.getD d') := by
  cases o with
  | none => cases u with
    | none => exact rd
    | some _ => exact (show False from r).elim
  | some _ => cases u with
    | none => exact (show False from r).elim
    | some _ => exact r

theorem KV.val {kvs : List (κ × V)} {vs : List (κ × Value)} (r : KV kvs vs) (k : κ) : RelO (valV kvs k) (valueAt vs k) := by
  unfold KV at r
  induction r with
  | nil => exact True.intro
  | @cons p q ps qs h t ih =>
    obtain ⟨h1, h2⟩ := h
    by_cases e : p.1 = k
    · have e' : q.1 = k := h1.symm.trans e
      have b : valueAt (q :: qs) k = some q.2 := by simp [valueAt, List.find?_cons, e']
      rw [valV_pos e, b]; exact h2
    · have e' : ¬ q.1 = k := fun z => e (h1.trans z)
      have b : valueAt (q :: qs) k = valueAt qs k := by simp [valueAt, List.find?_cons, e']
      rw [valV_neg e, b]; exact ih
theorem KV.any {kvs : List (κ × V)} {vs : List (κ × Value)} (r : KV kvs vs) (k : κ) : (kvs.any fun kv => decide (kv.1 = k)) = vs.any fun kv => decide (kv.1 = k) := by
  unfold KV at r
  induction r with
  | nil => rfl
  | cons h t ih => rw [List.any_cons, List.any_cons, ih, h.1]
theorem KV.repl {kvs : List (κ × V)} {vs : List (κ × Value)} (r : KV kvs vs) (k : κ) {y : V} {u : Value} (ry : RelV y u) :
    KV (kvs.map fun kv => if kv.1 = k then (kv.1, y) else kv) (vs.map fun kv => if kv.1 = k then (kv.1, u) else kv) := by
  unfold KV at r ⊢
  induction r with
  | nil => exact .nil
  | @cons p q ps qs h t ih =>
    rw [List.map_cons, List.map_cons]
    refine .cons ?_ ih
    obtain ⟨h1, h2⟩ := h
    by_cases e : p.1 = k
    · rw [if_pos e, if_pos (h1.symm.trans e)]; exact ⟨h1, ry⟩
    · rw [if_neg e, if_neg (fun z => e (h1.trans z))]; exact ⟨h1, h2⟩
theorem KV.put {kvs : List (κ × V)} {vs : List (κ × Value)} (r : KV kvs vs) (k : κ) {y : V} {u : Value} (ry : RelV y u) : KV (putK kvs k y) (stored vs k u) := by
  unfold putK stored
  rw [r.any k]
  by_cases e : (vs.any fun kv => decide (kv.1 = k)) = true
  · rw [if_pos e, if_pos e]; exact r.repl k ry
  · rw [if_neg e, if_neg e]; exact Paired.snoc r ⟨rfl, ry⟩
theorem KV.drop {kvs : List (κ × V)} {vs : List (κ × Value)} (r : KV kvs vs) (k : κ) : KV (dropK kvs k) (without vs k) := by
  unfold KV at r ⊢
  unfold dropK without
  induction r with
  | nil => exact .nil
  | @cons p q ps qs h t ih =>
    obtain ⟨h1, h2⟩ := h
    rw [List.filter_cons, List.filter_cons]
    by_cases e : p.1 = k
    · have a : ¬ decide (p.1 ≠ k) = true := by simp [e]
      have b : ¬ decide (q.1 ≠ k) = true := by simp [h1.symm.trans e]
      rw [if_neg a, if_neg b]; exact ih
    · have e' : ¬ q.1 = k := fun z => e (h1.trans z)
      have a : decide (p.1 ≠ k) = true := by simp [e]
      have b : decide (q.1 ≠ k) = true := by simp [e']
      rw [if_pos a, if_pos b]; exact .cons ⟨h1, h2⟩ ih
theorem KV.keys {kvs : List (κ × V)} {vs : List (κ × Value)} (r : KV kvs vs) : kvs.map (·.1) = vs.map (·.1) := by
  unfold KV at r
  induction r with
  | nil => rfl
  | cons h t ih => rw [List.map_cons, List.map_cons, ih, h.1]
theorem KV.length {kvs : List (κ × V)} {vs : List (κ × Value)} (r : KV kvs vs) : kvs.length = vs.length := Paired.length r
end


abbrev KT (H : Hp) : List (List Key × V) → List (List Key × Addr × Value) → Prop := Paired fun p q => p.1 = q.1 ∧ H q.2.1 = some (.tup (p.1.map kV)) ∧ RelV p.2 q.2.2
theorem KT.val {H : Hp} {kvs : List (List Key × V)} {xs : List (List Key × Addr × Value)} (r : KT H kvs xs) (k : List Key) : RelO (valV kvs k) ((atKey xs k).map (·.2)) := by
  induction r with
  | nil => exact True.intro
  | @cons p q ps qs h t ih =>
    obtain ⟨h1, _, h2⟩ := h
    by_cases e : p.1 = k
    · have e' : q.1 = k := h1.symm.trans e
      have b : atKey (q :: qs) k = some q.2 := by simp [atKey, List.find?_cons, e']
      rw [valV_pos e, b]; exact h2
    · have e' : ¬ q.1 = k := fun z => e (h1.trans z)
      have b : atKey (q :: qs) k = atKey qs k := by simp [atKey, List.find?_cons, e']
      rw [valV_neg e, b]; exact ih
theorem KT.repl {H : Hp} {kvs : List (List Key × V)} {xs : List (List Key × Addr × Value)} (r : KT H kvs xs) (k : List Key) {y : V} {u : Value} (ry : RelV y u) :
    KT H (kvs.map fun kv => if kv.1 = k then (kv.1, y) else kv) (xs.map (putAt k u)) := by
  induction r with
  | nil => exact .nil
  | @cons p q ps qs h t ih =>
    rw [List.map_cons, List.map_cons]
    refine .cons ?_ ih
    obtain ⟨h1, h2, h3⟩ := h
    unfold putAt
    by_cases e : p.1 = k
    · rw [if_pos e, if_pos (h1.symm.trans e)]; exact ⟨h1, h2, ry⟩
    · rw [if_neg e, if_neg (fun z => e (h1.trans z))]; exact ⟨h1, h2, h3⟩
theorem KT.put {H : Hp} {kvs : List (List Key × V)} {xs : List (List Key × Addr × Value)} (r : KT H kvs xs) (k : List Key) {b : Addr} {y : V} {u : Value} (hb : H b = some (.tup (k.map kV))) (ry : RelV y u) :
    KT H (putK kvs k y) (storedH xs k b u) := by
  have e : (kvs.any fun kv => decide (kv.1 = k)) = (atKey xs k).isSome := by
    rw [valV_any, (r.val k).isSome_eq, Option.isSome_map]
  unfold putK storedH
  rw [e]
  by_cases q : (atKey xs k).isSome = true
  · rw [if_pos q, if_pos q]; exact r.repl k ry
  · rw [if_neg q, if_neg q]; exact Paired.snoc r ⟨rfl, hb, ry⟩
theorem KT.keeps {H H' : Hp} {kvs : List (List Key × V)} {xs : List (List Key × Addr × Value)} (r : KT H kvs xs) (ht : ∀ b ys, H b = some (.tup ys) → H' b = some (.tup ys)) : KT H' kvs xs :=
  Paired.mapP r fun _ _ z => ⟨z.1, ht _ _ z.2.1, z.2.2⟩

section
variable {P : Program} {w : World} {H : Hp} {h : Heap} {a : Addr}
end

def DGet (H : Hp) (a : Addr) (y : V) (r : Option V) : Prop :=
  (∃ kvs k, Rd H a (.dK kvs) ∧ y = kV k ∧ r = valV kvs k) ∨ ∃ kvs k b, Rd H a (.dT kvs) ∧ y = .ref b ∧ H b = some (.tup (k.map kV)) ∧ r = valV kvs k
def DPut (H : Hp) (a : Addr) (y v : V) (H' : Hp) : Prop :=
  (∃ kvs k, H a = some (.dK kvs) ∧ y = kV k ∧ kvs.length < sizeLine ∧ H' = upd H a (.dK (putK kvs k v))) ∨
  ∃ kvs k b, H a = some (.dT kvs) ∧ y = .ref b ∧ H b = some (.tup (k.map kV)) ∧ kvs.length < sizeLine ∧ H' = upd H a (.dT (putK kvs k v))
theorem DGet.k {H : Hp} {a : Addr} {kvs : List (Key × V)} {k : Key} (e : H a = some (.dK kvs)) : DGet H a (kV k) (valV kvs k) := .inl ⟨kvs, k, .inl e, rfl, rfl⟩
theorem DGet.t {H : Hp} {a b : Addr} {kvs : List (List Key × V)} {k : List Key} (e : H a = some (.dT kvs)) (eb : H b = some (.tup (k.map kV))) : DGet H a (.ref b) (valV kvs k) := .inr ⟨kvs, k, b, .inl e, rfl, eb, rfl⟩
theorem DPut.k {H : Hp} {a : Addr} {kvs : List (Key × V)} {k : Key} {v : V} (e : H a = some (.dK kvs)) (hl : kvs.length < sizeLine) : DPut H a (kV k) v (upd H a (.dK (putK kvs k v))) := .inl ⟨kvs, k, e, rfl, hl, rfl⟩
theorem DPut.t {H : Hp} {a b : Addr} {kvs : List (List Key × V)} {k : List Key} {v : V} (e : H a = some (.dT kvs)) (eb : H b = some (.tup (k.map kV))) (hl : kvs.length < sizeLine) :
    DPut H a (.ref b) v (upd H a (.dT (putK kvs k v))) := .inr ⟨kvs, k, b, e, rfl, eb, hl, rfl⟩


section
variable {X : Cx} {pins : List (Addr × Obj)} {σ : St} {H : Hp} {s : Shared} {a : Addr} {y v : V} {u r : Value} {o : Option V} {A : Around} {E : Value → Shared → Prop}

end

section
variable {X : Cx} {pins : List (Addr × Obj)} {σ : St} {H : Hp} {s : Shared} {a : Addr} {kvs : List (Key × V)} {k : Key} {u : Value} {A : Around} {E : Value → Shared → Prop}
end


section
variable {X : Cx} {o i e value : Expr} {pos pos' tpos : Pos} {td ty tv : TE}
end


section
variable {X : Cx} {pos : Pos}
end
end L2
set_option Elab.async false
set_option linter.all false
set_option maxRecDepth 100000
namespace L2
open PySem PySem.Spec PyProof.Rows
def NF (H0 : Hp) (a : Addr) : Prop := ∀ o u, H0 a ≠ some (.frz o u)
section
variable {X : Cx} {pins : List (Addr × Obj)} {σ : St} {H : Hp} {s : Shared} {a : Addr}
theorem Inv.nf {kvs : List (Key × V)} (I : Inv X pins σ H s) (e : H a = some (.dK kvs)) : NF X.H₀ a := fun o u z => by
  have := I.base.frzs a o u z
  rw [e] at this; cases this
end
section
variable {X : Cx} {tg : Expr}
end
end L2
set_option Elab.async false
set_option linter.all false
set_option maxRecDepth 100000
namespace L2
open PySem PySem.Spec PyProof.Rows
section
variable {X : Cx} {pos : Pos} {ek ev : Expr} {tk tv : TE}
end
end L2
set_option Elab.async false
set_option linter.all false
set_option maxRecDepth 100000
namespace L2
open PySem PySem.Spec PyProof.Rows
section
variable {prog : Program} {w : World} {A : Around} {E : Value → Shared → Prop} {s : Shared}
def ItemAt (h : Heap) (u : Value) (i : Int) (v : Value) : Prop := ∃ p, u = .ref p ∧ ((∃ its : Array Value, h.IsTuple p its ∧ 0 ≤ i ∧ i < 1000 ∧ its[i.toNat]? = some v) ∨ ∃ its : Array Value, h.IsList p its ∧ 0 ≤ i ∧ i < 1000 ∧ its[i.toNat]? = some v)
theorem ItemAt.keeps {h h' : Heap} {u : Value} {i : Int} {v : Value} (x : ItemAt h u i v) (k : ∀ b o, h.get? b = some o → h'.get? b = some o) : ItemAt h' u i v := by
  obtain ⟨p, rfl, ⟨its, ⟨o, ho, r⟩, q⟩ | ⟨its, ⟨o, ho, r⟩, q⟩⟩ := x
  · exact ⟨p, rfl, .inl ⟨its, ⟨o, k _ _ ho, r⟩, q⟩⟩
  · exact ⟨p, rfl, .inr ⟨its, ⟨o, k _ _ ho, r⟩, q⟩⟩
section
variable {R : Result → Shared → Prop} {I : Addr} {fp wr : List Addr} {n : Nat} {Pv : Nat → Value → Prop} {St : Nat → Heap → Prop} {f : Addr} {kf : Nat → Int} {L : List (Addr × Obj)}
end
end
end L2
set_option Elab.async false
set_option linter.all false
set_option maxRecDepth 100000
namespace L2
open PySem PySem.Spec PyProof.Rows
structure Lm (K : PySem.W.Frag) (mg : Str → Option Value) (base : Heap) (c P : Addr) : Prop where
  hd : PySem.W.codeHdIn K c P = true
  gP : mainGlobals ≠ P
  bu : base.BuiltinsAt mg P
theorem codeAmong_app {pos p0 : Pos} {c cv : Value} : ∀ {l : List Value}, TriplesOk l → codeAmong pos (l ++ [rawInt p0.line, rawInt p0.col, c]) = some cv → codeAmong pos l = some cv ∨ cv = c
  | [], _, e => by
    simp only [List.nil_append, rawInt, codeAmong] at e
    split at e
    · exact .inr (Option.some.inj e).symm
    · cases e
  | .int a t :: .int b u :: x :: r, h, e => by
    simp only [List.cons_append, codeAmong] at e ⊢
    split
    · rename_i hc
      rw [if_pos hc] at e
      exact .inl e
    · rename_i hc
      rw [if_neg hc] at e
      exact codeAmong_app (show TriplesOk r from h) e
section
variable {X : Cx} {pins : List (Addr × Obj)} {σ : St} {H : Hp} {s : Shared} {c P c' : Addr} {q : Str} {ps : Array Value} {h' : Heap} {t' : Nat}
theorem Inv.grown {p0 : Pos} (I : Inv X pins σ H s) (hT : H P = some (.tab q)) (hx : Heap.ExtBut P s.heap h') (hge : s.heap.objs.size ≤ c') (hcr : h'.CodeRec (.ref c') q) (hP0 : s.heap.get? P = some (PySem.W.tabObj ps)) (hPt : h'.get? P = some (PySem.W.tabObj (ps ++ #[rawInt p0.line, rawInt p0.col, .ref c']))) :
    Inv X pins σ (upd H c' (.own P)) { s with heap := h', toks := t' } := by
  have hf : H c' = none := I.hok.fresh hge
  have hn : ∀ b, H b = none → b ≠ P := fun b n z => by rw [z, hT] at n; cases n
  have hc : ∀ b u, H b = some u → b ≠ c' := fun b u n z => by rw [z, hf] at n; cases n
  have hlt : ∀ b o, s.heap.get? b = some o → b ≠ c' := fun b o e => Nat.ne_of_lt (Nat.lt_of_lt_of_le (Heap.lt_size e) hge)
  obtain ⟨c2, oc, vs, tq, ec, hoc, hdc, hv⟩ := hcr
  cases ec
  refine I.un ⟨fun b o e n _ _ => hx b o (hn b n) e, fun b o e n _ _ => ⟨o.slots, hx b o (hn b n) e⟩, fun b o e n _ => by rw [upd_ne (hlt b o e)]; exact n, fun b o e _ => ?_, fun b xs e => by rw [upd_ne (hc b _ e)]; exact e, fun b o u e => by rw [upd_ne (hc b _ e)]; exact e, fun b ps e => ⟨#[], by rw [upd_ne (hc b _ e), e]; simp⟩⟩ ?_
  · by_cases hb : b = P
    · subst hb; exact ⟨_, hPt⟩
    · exact ⟨o, hx b o hb e⟩
  · intro b u e
    by_cases hb : b = c'
    · subst hb
      rw [upd_same] at e; cases e
      exact ⟨oc, hoc⟩
    · rw [upd_ne hb] at e
      by_cases hbP : b = P
      · subst hbP
        rw [hT] at e; cases e
        obtain ⟨ps0, e0, tr, r⟩ : ∃ ps : Array Value, s.heap.get? b = some { cls := .none, data := .fields ps } ∧ TriplesOk ps.toList ∧ ∀ (pos : Pos) (cv : Value), codeAmong pos ps.toList = some cv → ∃ (c : Addr) (o : Obj) (vs : Array Value) (t : Tok), cv = .ref c ∧ H c = some (.own b) ∧ s.heap.get? c = some o ∧ o.data = .fields vs ∧ (vs[1]? : Option Value) = some (.str q t) := I.hok b _ hT
        rw [hP0] at e0
        cases e0
        have el : (ps ++ #[rawInt p0.line, rawInt p0.col, Value.ref c']).toList = ps.toList ++ [rawInt p0.line, rawInt p0.col, .ref c'] := by simp
        refine ⟨_, hPt, by rw [el]; exact TriplesOk_snoc _ _ _ _ tr, fun pos cv z => ?_⟩
        rw [el] at z
        rcases codeAmong_app tr z with z | rfl
        · obtain ⟨c3, o3, vs3, t3, r1, r2, r3, r4⟩ := r pos cv z
          have n3 : c3 ≠ b := fun y => by rw [y, hT] at r2; cases r2
          exact ⟨c3, o3, vs3, t3, r1, by rw [upd_ne (hc _ _ r2)]; exact r2, hx _ _ n3 r3, r4⟩
        · exact ⟨c', oc, vs, tq, rfl, upd_same, hoc, hdc, hv⟩
      · refine (I.hok b u e).stay (fun d v hd z => hx d v ?_ z) (fun d z => by rw [upd_ne (hc _ _ z)]; exact z) fun d xs z => by rw [upd_ne (hc _ _ z)]; exact z
        rcases hd with rfl | hd
        · exact hbP
        · intro z
          rw [z, hT] at hd; cases hd
end
end L2
set_option Elab.async false
set_option linter.all false
set_option maxRecDepth 100000
namespace L2
open PySem PySem.Spec PyProof.Rows
section
variable {X : Cx} {pins : List (Addr × Obj)} {σ : St} {H : Hp} {s : Shared}
theorem ItemAt.obj {h : Heap} {u : Value} {i : Int} {v : Value} (x : ItemAt h u i v) : ∃ p o, u = .ref p ∧ h.get? p = some o ∧ ∀ h' : Heap, h'.get? p = some o → ItemAt h' u i v := by
  obtain ⟨p, rfl, ⟨its, ⟨o, ho, r⟩, q⟩ | ⟨its, ⟨o, ho, r⟩, q⟩⟩ := x
  · exact ⟨p, o, rfl, ho, fun h' e => ⟨p, rfl, .inl ⟨its, ⟨o, e, r⟩, q⟩⟩⟩
  · exact ⟨p, o, rfl, ho, fun h' e => ⟨p, rfl, .inr ⟨its, ⟨o, e, r⟩, q⟩⟩⟩
end
end L2
set_option Elab.async false
set_option linter.all false
set_option maxRecDepth 100000
namespace L2
open PySem PySem.Spec PyProof.Rows
end L2
namespace L2
open PySem PySem.Spec PyProof.Rows
section
variable {P : Program} {w : World} {K : PySem.W.Frag} {mg : Str → Option Value} {base : Heap}
end
end L2
set_option Elab.async false
set_option linter.all false
set_option maxRecDepth 100000
namespace L2
open PySem PySem.Spec PyProof.Rows
abbrev IsZipG (h : Heap) (z TI TO : Addr) (f0 : Value) (f1 : Bool) : Prop :=
  h.get? z = some { cls := .type "zip", dict := none, data := .fields #[f0, .bool f1, .bool false, .ref TI, .ref TO], slots := #[] }
def F0 (f : Value) : Prop := f = .none ∨ ∃ a t, f = .int a t
section
variable {prog : Program} {w : World} {A : Around} {E : Value → Shared → Prop} {s : Shared} {z TI TO i1 i2 l1 l2 : Addr} {n1 n2 : Nat} {P1 P2 : Nat → Value → Prop} {st1 st2 : Nat → Heap → Prop}
structure ZipSt (h : Heap) (z TI TO i1 i2 : Addr) : Prop where
  hz : ∃ f0 f1, F0 f0 ∧ IsZipG h z TI TO f0 f1
  ti : IsPair h TI (.ref i1) (.ref i2)
  to : ∃ a b, IsPair h TO a b
end
end L2
set_option Elab.async false
set_option linter.all false
set_option maxRecDepth 100000
namespace L2
open PySem PySem.Spec PyProof.Rows
section
variable {X : Cx} {es : List Expr} {x1 : Nat} {tpos : Pos}
end
end L2
set_option Elab.async false
set_option linter.all false
namespace L2
open PySem
end L2
set_option Elab.async false
set_option linter.all false
namespace L2
open PySem
section
variable {X : Cx} {K : PySem.W.Frag} {pos : Pos}
def rTupOf (K : PySem.W.Frag) : List V → Hp → VK → Prop := fun xs H Q => ∃ p ys, xs = [.ref p] ∧ ((SqL K H p ys ∧ ∀ l, H l = none → Q (.ref l) (upd H l (.tup ys))) ∨ (SqT K H p ys ∧ Q (.ref p) H))
theorem kTupOf (hK : X.K = K) : CallR X (.type "tuple") (rTupOf K) := by subst hK; exact call_tuple_of
theorem kIn (hK : X.K = K) : OpR X (compareOp .In) (rIn K false) := by subst hK; exact op_in_seq
end
section
variable {α β γ δ ε ζ η θ ι κ : Type}
end
end L2
set_option Elab.async false
set_option linter.all false
set_option maxRecDepth 100000
namespace L2
open PySem PySem.Spec PyProof.Rows
section
variable {X : Cx}
end
section
variable {K : PySem.W.Frag} {own : Nat} {fr : List Nat} {g : TG} {te : TE} {σ : St} {H : Hp} {Qf : Hp → List V → Prop}
end
end L2
set_option Elab.async false
set_option linter.all false
set_option maxRecDepth 100000
namespace L2
open PySem PySem.Spec PyProof.Rows
theorem below_go {xs : Array Nat} {j : Nat} (hs : xs.toList.Pairwise (· < ·)) : ∀ (fuel lo hi : Nat), hi - lo ≤ fuel → lo ≤ hi → hi ≤ xs.size → (∀ i v, i < lo → xs[i]? = some v → v < j) → (∀ i v, hi ≤ i → xs[i]? = some v → j ≤ v) →
    SetTable.below.go xs j fuel lo hi ≤ xs.size ∧ (∀ i v, i < SetTable.below.go xs j fuel lo hi → xs[i]? = some v → v < j) ∧ (∀ i v, SetTable.below.go xs j fuel lo hi ≤ i → xs[i]? = some v → j ≤ v) := by
  have mono : ∀ i k u v, i < k → xs[i]? = some u → xs[k]? = some v → u < v := fun i k u v hik hu hv => by
    rw [← Array.getElem?_toList] at hu hv
    obtain ⟨h1, e1⟩ := List.getElem?_eq_some_iff.mp hu
    obtain ⟨h2, e2⟩ := List.getElem?_eq_some_iff.mp hv
    rw [← e1, ← e2]
    exact List.pairwise_iff_getElem.mp hs i k h1 h2 hik
  intro fuel
  induction fuel with
  | zero =>
    intro lo hi h1 h2 h3 h4 h5
    have e : hi = lo := by omega
    subst e
    exact ⟨h3, h4, h5⟩
  | succ fuel ih =>
    intro lo hi h1 h2 h3 h4 h5
    have e : SetTable.below.go xs j (fuel + 1) lo hi = if lo < hi then (if xs.getD ((lo + hi) / 2) j < j then SetTable.below.go xs j fuel ((lo + hi) / 2 + 1) hi else SetTable.below.go xs j fuel lo ((lo + hi) / 2)) else lo := rfl
    rw [e]
    by_cases hlt : lo < hi
    · rw [if_pos hlt]
      have hm : (lo + hi) / 2 < xs.size := by omega
      have hg : xs[(lo + hi) / 2]? = some (xs.getD ((lo + hi) / 2) j) := by
        rw [Array.getD_eq_getD_getElem?, Array.getElem?_eq_getElem hm]; rfl
      by_cases hc : xs.getD ((lo + hi) / 2) j < j
      · rw [if_pos hc]
        refine ih _ _ (by omega) (by omega) h3 (fun i v hi' hv => ?_) h5
        rcases Nat.lt_or_ge i ((lo + hi) / 2) with z | z
        · exact Nat.lt_trans (mono _ _ _ _ z hv hg) hc
        · have : i = (lo + hi) / 2 := by omega
          subst this
          rw [hg] at hv
          rw [← Option.some.inj hv]; exact hc
      · rw [if_neg hc]
        refine ih _ _ (by omega) (by omega) (by omega) h4 (fun i v hi' hv => ?_)
        rcases Nat.lt_or_ge ((lo + hi) / 2) i with z | z
        · have := mono _ _ _ _ z hg hv
          omega
        · have : i = (lo + hi) / 2 := by omega
          subst this
          rw [hg] at hv
          rw [← Option.some.inj hv]; omega
    · rw [if_neg hlt]
      have e : hi = lo := by omega
      subst e
      exact ⟨h3, h4, h5⟩
theorem below_ok' {xs : Array Nat} (hs : xs.toList.Pairwise (· < ·)) (j : Nat) : SetTable.below xs j ≤ xs.size ∧ (∀ i v, i < SetTable.below xs j → xs[i]? = some v → v < j) ∧ (∀ i v, SetTable.below xs j ≤ i → xs[i]? = some v → j ≤ v) :=
  below_go hs xs.size 0 xs.size (by omega) (Nat.zero_le _) (Nat.le_refl _) (fun i v h => absurd h (Nat.not_lt_zero _)) (fun i v h e => by rw [Array.getElem?_eq_none h] at e; cases e)
def slotG (xs : Array Nat) (i : Nat) : Nat := if i = 0 then 0 else (xs[i - 1]?).getD 0 + 1
theorem below_slot {xs : Array Nat} (hs : xs.toList.Pairwise (· < ·)) {i : Nat} (hi : i ≤ xs.size) : SetTable.below xs (slotG xs i) = i := by
  obtain ⟨h1, h2, h3⟩ := below_ok' hs (slotG xs i)
  have mono : ∀ i k u v, i < k → xs[i]? = some u → xs[k]? = some v → u < v := fun i k u v hik hu hv => by
    rw [← Array.getElem?_toList] at hu hv
    obtain ⟨h1, e1⟩ := List.getElem?_eq_some_iff.mp hu
    obtain ⟨h2, e2⟩ := List.getElem?_eq_some_iff.mp hv
    rw [← e1, ← e2]
    exact List.pairwise_iff_getElem.mp hs i k h1 h2 hik
  rcases Nat.lt_trichotomy (SetTable.below xs (slotG xs i)) i with z | z | z
  · exfalso
    have hlt : i - 1 < xs.size := by omega
    have e : xs[i - 1]? = some xs[i - 1] := Array.getElem?_eq_getElem hlt
    have := h3 (i - 1) _ (by omega) e
    unfold slotG at this
    rw [if_neg (by omega), e] at this
    have : xs[i - 1] + 1 ≤ xs[i - 1] := this
    omega
  · exact z
  · exfalso
    have hlt : i < xs.size := by omega
    have e : xs[i]? = some xs[i] := Array.getElem?_eq_getElem hlt
    have := h2 i _ z e
    unfold slotG at this
    by_cases h0 : i = 0
    · rw [if_pos h0] at this; omega
    · have hlt' : i - 1 < xs.size := by omega
      have e' : xs[i - 1]? = some xs[i - 1] := Array.getElem?_eq_getElem hlt'
      rw [if_neg h0, e'] at this
      have this : xs[i] < xs[i - 1] + 1 := this
      have := mono (i - 1) i _ _ (by omega) e' e
      omega
def lpN (mask : Nat) : Nat → Nat × Nat → Nat × Nat
  | 0, p => p
  | n + 1, p => lpN mask n (SetTable.leap mask p.1 p.2)
theorem lpN_add (mask : Nat) : ∀ (a b : Nat) (p : Nat × Nat), lpN mask (a + b) p = lpN mask b (lpN mask a p)
  | 0, b, p => by rw [Nat.zero_add]; rfl
  | a + 1, b, p => by
    rw [show a + 1 + b = (a + b) + 1 by omega]
    exact lpN_add mask a b _
theorem lpN_zero (mask : Nat) : ∀ (k : Nat) (p : Nat × Nat), p.2 < 32 ^ k → p.1 ≤ mask → ∃ i, i ≤ mask ∧ lpN mask k p = (i, 0)
  | 0, p, h, hi => ⟨p.1, hi, by
      obtain ⟨a, b⟩ := p
      have : b = 0 := by have h : b < 32 ^ 0 := h; omega
      subst this; rfl⟩
  | k + 1, p, h, hi => by
    refine lpN_zero mask k _ ?_ ?_
    · show p.2 / 32 < 32 ^ k
      rw [Nat.pow_succ] at h
      omega
    · show (p.1 * 5 + 1 + p.2 / 32) % (mask + 1) ≤ mask
      have := Nat.mod_lt (p.1 * 5 + 1 + p.2 / 32) (show 0 < mask + 1 by omega)
      omega
theorem lg7 : ∀ i j : Fin 8, ∃ n : Fin 8, (lpN 7 n.val (i.val, 0)).1 = j.val := by decide +kernel
theorem lg31 : ∀ i j : Fin 32, ∃ n : Fin 32, (lpN 31 n.val (i.val, 0)).1 = j.val := by decide +kernel
theorem orbit {mask : Nat} (hm : mask = 7 ∨ mask = 31) {i pt j : Nat} (hi : i ≤ mask) (hp : pt < 2 ^ 64) (hj : j ≤ mask) : ∃ n, n ≤ mask + 13 ∧ (lpN mask n (i, pt)).1 = j := by
  obtain ⟨i', hi', e⟩ := lpN_zero mask 13 (i, pt) (show pt < 32 ^ 13 by omega) hi
  rcases hm with rfl | rfl
  · obtain ⟨n, hn⟩ := lg7 ⟨i', by omega⟩ ⟨j, by omega⟩
    exact ⟨13 + n.val, by have := n.isLt; omega, by rw [lpN_add, e]; exact hn⟩
  · obtain ⟨n, hn⟩ := lg31 ⟨i', by omega⟩ ⟨j, by omega⟩
    exact ⟨13 + n.val, by have := n.isLt; omega, by rw [lpN_add, e]; exact hn⟩
def advN (t : SetTable) : Nat → SetTable.Probe → SetTable.Probe
  | 0, p => p
  | n + 1, p => advN t n (t.advance p)
theorem advN_add (t : SetTable) : ∀ (a b : Nat) (p : SetTable.Probe), advN t (a + b) p = advN t b (advN t a p)
  | 0, b, p => by rw [Nat.zero_add]; rfl
  | a + 1, b, p => by
    rw [show a + 1 + b = (a + b) + 1 by omega]
    exact advN_add t a b _
theorem adv_dummy (t : SetTable) (p : SetTable.Probe) : (t.advance p).dummy = p.dummy := by
  unfold SetTable.advance
  split <;> rfl
theorem has_nil (j : Nat) : SetTable.has #[] j = false := rfl
theorem slot_cases {t : SetTable} (hd : t.dummies = #[]) (j : Nat) : t.slot j = .empty ∨ ∃ i, t.slot j = .live i := by
  unfold SetTable.slot
  dsimp only
  by_cases h : (t.place[SetTable.below t.place j]? == some j) = true
  · rw [if_pos h]; exact .inr ⟨_, rfl⟩
  · rw [if_neg h, hd, has_nil]
    exact .inl (if_neg (by decide))
theorem probe_of {t : SetTable} (hd : t.dummies = #[]) {hashAt : Nat → Int} {h : Int} (hh : ∀ i, (hashAt i == h) = false) : ∀ (fuel : Nat) (p : SetTable.Probe) (n : Nat), n < fuel → p.dummy = none → t.slot (advN t n p).j = .empty → ∃ j, SetTable.probe.go t hashAt h fuel p = some (.empty j none) ∧ t.slot j = .empty
  | 0, p, n, hn, _, _ => absurd hn (Nat.not_lt_zero _)
  | fuel + 1, p, n, hn, hp, hs => by
    have e : SetTable.probe.go t hashAt h (fuel + 1) p = (match t.slot p.j with
      | .empty => some (.empty p.j p.dummy)
      | .dummy => SetTable.probe.go t hashAt h fuel (t.advance { p with dummy := some p.j })
      | .live i => if (hashAt i == h) = true then some (.candidate p.j i (t.advance p)) else SetTable.probe.go t hashAt h fuel (t.advance p)) := rfl
    rcases slot_cases hd p.j with q | ⟨i, q⟩
    · refine ⟨p.j, ?_, q⟩
      rw [e, q, hp]
    · rw [e, q]
      simp only [hh, Bool.false_eq_true, if_false]
      cases n with
      | zero => rw [show advN t 0 p = p from rfl, q] at hs; cases hs
      | succ n => exact probe_of hd hh fuel (t.advance p) n (by omega) (by rw [adv_dummy]; exact hp) hs
def StP (mask : Nat) (p : Nat × Nat) : SetTable.Probe := { j := p.1, more := SetTable.runEnd mask p.1 - p.1, i := p.1, perturb := p.2, dummy := none }
theorem adv_run (t : SetTable) (i pt : Nat) : ∀ (m j : Nat), advN t (m + 1) { j := j, more := m, i := i, perturb := pt, dummy := none } = StP t.mask (SetTable.leap t.mask i pt)
  | 0, j => rfl
  | m + 1, j => adv_run t i pt m (j + 1)
theorem run_le (mask i : Nat) : SetTable.runEnd mask i - i ≤ 9 := by
  unfold SetTable.runEnd
  split <;> omega
theorem adv_leaps (t : SetTable) : ∀ (k : Nat) (p : Nat × Nat), ∃ n, n ≤ 10 * k ∧ advN t n (StP t.mask p) = StP t.mask (lpN t.mask k p)
  | 0, p => ⟨0, Nat.le_refl _, rfl⟩
  | k + 1, p => by
    obtain ⟨n, hn, e⟩ := adv_leaps t k (SetTable.leap t.mask p.1 p.2)
    refine ⟨(SetTable.runEnd t.mask p.1 - p.1 + 1) + n, by have := run_le t.mask p.1; omega, ?_⟩
    rw [advN_add]
    have e2 : advN t (SetTable.runEnd t.mask p.1 - p.1 + 1) (StP t.mask p) = StP t.mask (SetTable.leap t.mask p.1 p.2) := adv_run t p.1 p.2 _ _
    rw [e2]
    exact e
theorem bits_lt (h : Int) : SetTable.bits h < 2 ^ 64 := by
  unfold SetTable.bits
  have h1 := Int.emod_lt_of_pos h (show (0 : Int) < 2 ^ 64 by decide)
  have h2 := Int.emod_nonneg h (show (2 ^ 64 : Int) ≠ 0 by decide)
  omega
theorem free_ok {t : SetTable} (hm : t.mask = 7 ∨ t.mask = 31) (hd : t.dummies = #[]) {j0 : Nat} (hj : j0 ≤ t.mask) (hs : t.slot j0 = .empty) (h : Int) : ∃ j, t.freeSlot h = some (j, false) ∧ t.slot j = .empty := by
  have hlt := Nat.mod_lt (SetTable.bits h) (show 0 < t.mask + 1 by omega)
  obtain ⟨k, hk, e⟩ := orbit hm (i := SetTable.bits h % (t.mask + 1)) (pt := SetTable.bits h) (by omega) (bits_lt h) hj
  obtain ⟨n, hn, e2⟩ := adv_leaps t k (SetTable.bits h % (t.mask + 1), SetTable.bits h)
  obtain ⟨j, e3, e4⟩ := probe_of hd (hashAt := fun _ => h + 1) (h := h) (fun i => beq_eq_false_iff_ne.mpr (by omega)) (10 * SetTable.turns t.mask) (StP t.mask (SetTable.bits h % (t.mask + 1), SetTable.bits h)) n (by unfold SetTable.turns; omega) rfl (by
    rw [e2]
    show t.slot (lpN t.mask k (SetTable.bits h % (t.mask + 1), SetTable.bits h)).1 = _
    rw [e]; exact hs)
  refine ⟨j, ?_, e4⟩
  have e5 : t.probe (fun x => h + 1) h (t.probeStart h) = some (.empty j none) := e3
  unfold SetTable.freeSlot
  rw [e5]
  rfl
theorem gap : ∀ (l : List Nat) (b : Nat), l.Pairwise (· < ·) → (∀ x ∈ l, b ≤ x) → ∃ j, b ≤ j ∧ j ≤ b + l.length ∧ j ∉ l
  | [], b, _, _ => ⟨b, Nat.le_refl _, Nat.le_refl _, List.not_mem_nil⟩
  | x :: r, b, h, hb => by
    obtain ⟨h1, h2⟩ := List.pairwise_cons.mp h
    by_cases z : x = b
    · obtain ⟨j, j1, j2, j3⟩ := gap r (b + 1) h2 fun y hy => by have := h1 y hy; omega
      refine ⟨j, by omega, by rw [List.length_cons]; omega, fun m => ?_⟩
      rcases List.mem_cons.mp m with m | m
      · omega
      · exact j3 m
    · refine ⟨b, Nat.le_refl _, by omega, fun m => ?_⟩
      have hx := hb x (List.mem_cons_self ..)
      rcases List.mem_cons.mp m with m | m
      · exact z m.symm
      · have := h1 b m; omega
theorem slot_empty {t : SetTable} (hd : t.dummies = #[]) {j : Nat} (h : j ∉ t.place.toList) : t.slot j = .empty := by
  rcases slot_cases hd j with q | ⟨i, q⟩
  · exact q
  · exfalso
    unfold SetTable.slot at q
    dsimp only at q
    by_cases z : (t.place[SetTable.below t.place j]? == some j) = true
    · have z' := eq_of_beq z
      rw [← Array.getElem?_toList] at z'
      exact h (List.mem_of_getElem? z')
    · rw [if_neg z, hd, has_nil] at q
      simp at q
theorem empty_at {t : SetTable} {j : Nat} (h : t.slot j = .empty) : t.place[SetTable.below t.place j]? ≠ some j := fun z => by
  unfold SetTable.slot at h
  dsimp only at h
  rw [if_pos (by rw [z]; exact beq_self_eq_true _)] at h
  cases h
theorem insert_list {α : Type} (xs : Array α) (p : Nat) (x : α) : (SetTable.insertAt xs p x).toList = xs.toList.take p ++ x :: xs.toList.drop p := by
  unfold SetTable.insertAt
  rw [Array.toList_append, Array.toList_push, Array.toList_extract, Array.toList_extract]
  simp only [List.extract_eq_drop_take, List.drop_zero, Nat.sub_zero]
  rw [List.append_assoc]
  congr 1
  rw [List.singleton_append]
  congr 1
  rw [List.take_of_length_le]
  rw [List.length_drop, Array.length_toList]
  exact Nat.le_refl _
theorem insert_sorted {xs : Array Nat} (hs : xs.toList.Pairwise (· < ·)) {j : Nat} (h : xs[SetTable.below xs j]? ≠ some j) : (SetTable.insertAt xs (SetTable.below xs j) j).toList.Pairwise (· < ·) := by
  obtain ⟨h1, h2, h3⟩ := below_ok' hs j
  rw [insert_list]
  have hgt : ∀ y ∈ xs.toList.drop (SetTable.below xs j), j < y := fun y hy => by
    obtain ⟨i, hi⟩ := List.mem_iff_getElem?.mp hy
    rw [List.getElem?_drop, Array.getElem?_toList] at hi
    have hle := h3 _ _ (Nat.le_add_right _ _) hi
    rcases Nat.lt_or_ge j y with z | z
    · exact z
    · exfalso
      have e : y = j := by omega
      subst e
      cases i with
      | zero => exact h hi
      | succ i =>
        have hlt : SetTable.below xs y < xs.size := by
          have := (Array.getElem?_eq_some_iff.mp hi).1
          omega
        have e1 : xs[SetTable.below xs y]? = some xs[SetTable.below xs y] := Array.getElem?_eq_getElem hlt
        have h4 := h3 _ _ (Nat.le_refl _) e1
        have h5 : xs[SetTable.below xs y] < y := by
          rw [← Array.getElem?_toList] at hi e1
          obtain ⟨q1, r1⟩ := List.getElem?_eq_some_iff.mp e1
          obtain ⟨q2, r2⟩ := List.getElem?_eq_some_iff.mp hi
          have := List.pairwise_iff_getElem.mp hs _ _ q1 q2 (by omega)
          rw [r1, r2] at this
          exact this
        omega
  have hlt : ∀ y ∈ xs.toList.take (SetTable.below xs j), y < j := fun y hy => by
    obtain ⟨i, hi⟩ := List.mem_iff_getElem?.mp hy
    have hi2 : i < SetTable.below xs j := by
      have := (List.getElem?_eq_some_iff.mp hi).1
      rw [List.length_take] at this
      omega
    rw [List.getElem?_take_of_lt hi2, Array.getElem?_toList] at hi
    exact h2 _ _ hi2 hi
  refine List.pairwise_append.mpr ⟨hs.sublist (List.take_sublist _ _), List.pairwise_cons.mpr ⟨hgt, hs.sublist (List.drop_sublist _ _)⟩, fun a ha b hb => ?_⟩
  rcases List.mem_cons.mp hb with rfl | hb
  · exact hlt a ha
  · exact Nat.lt_trans (hlt a ha) (hgt b hb)
structure Tb (L : Bool) (t : SetTable) (n m : Nat) : Prop where
  mask : (t.mask = 7 ∧ n ≤ m) ∨ (t.mask = 31 ∧ n ≤ 18)
  dums : t.dummies = #[]
  plain : t.plain = true
  led : t.led = L
  size : t.place.size = n
  rise : t.place.toList.Pairwise (· < ·)
theorem Tb.fits {L : Bool} {t : SetTable} {n m : Nat} (T : Tb L t n m) (hm : m ≤ 6) : t.fits n = true := by
  unfold SetTable.fits SetTable.fill
  rw [T.size, T.dums]
  have : n + (#[] : Array Nat).size ≤ t.mask := by
    show n + 0 ≤ _
    rcases T.mask with ⟨a, b⟩ | ⟨a, b⟩ <;> omega
  rw [decide_eq_true this, beq_self_eq_true]
  rfl
theorem Tb.lay {L : Bool} {t : SetTable} {es : Array (Int × Value)} (T : Tb L t es.size 4) (hn : es.size ≤ 17) (h : Int) (x : Value) :
    ∃ es' t', layNew t es h x = (es', t', false, false) ∧ es'.toList.Perm ((h, x) :: es.toList) ∧ Tb L t' es'.size 5 ∧ es'.size = es.size + 1 := by
  have hm : t.mask = 7 ∨ t.mask = 31 := by rcases T.mask with ⟨a, _⟩ | ⟨a, _⟩ <;> simp [a]
  obtain ⟨j0, _, j2, j3⟩ := gap t.place.toList 0 T.rise fun x _ => Nat.zero_le _
  have hj0 : j0 ≤ t.mask := by
    rw [Array.length_toList, T.size] at j2
    rcases T.mask with ⟨a, b⟩ | ⟨a, b⟩ <;> omega
  obtain ⟨j, ej, hj⟩ := free_ok hm T.dums hj0 (slot_empty T.dums j3) h
  have esz : (SetTable.insertAt es (SetTable.below t.place j) (h, x)).size = es.size + 1 := by
    rw [← Array.length_toList, insert_list, List.length_append, List.length_cons, List.length_take, List.length_drop, Array.length_toList]
    omega
  have eput : t.put j = ({ t with place := SetTable.insertAt t.place (SetTable.below t.place j) j, dummies := #[] }, SetTable.below t.place j) := by
    unfold SetTable.put
    dsimp only
    rw [T.dums, has_nil]
    rfl
  have T' : Tb L { t with place := SetTable.insertAt t.place (SetTable.below t.place j) j, dummies := #[] } (es.size + 1) 5 := by
    refine ⟨?_, rfl, T.plain, T.led, ?_, insert_sorted T.rise (empty_at hj)⟩
    · rcases T.mask with ⟨a, b⟩ | ⟨a, b⟩
      · exact .inl ⟨a, by omega⟩
      · exact .inr ⟨a, by omega⟩
    · show (SetTable.insertAt t.place _ j).size = _
      rw [← Array.length_toList, insert_list, List.length_append, List.length_cons, List.length_take, List.length_drop, Array.length_toList, T.size]
      omega
  refine ⟨SetTable.insertAt es (SetTable.below t.place j) (h, x), _, ?_, ?_, by rw [esz]; exact T', esz⟩
  · unfold layNew
    rw [ej]
    dsimp only
    rw [eput]
    dsimp only
    rw [esz]
    unfold SetTable.orStandIn
    rw [T'.fits (by decide)]
    rfl
  · rw [insert_list]
    exact List.perm_middle.trans (List.Perm.cons _ (by rw [List.take_append_drop]))
end L2
set_option Elab.async false
set_option linter.all false
set_option maxRecDepth 100000
namespace L2
open PySem PySem.Spec PyProof.Rows
theorem none_at : ∀ (l : List (Option Nat)), (l.filterMap id).length < l.length → ∃ j : Nat, l[j]? = some none
  | [], h => absurd h (Nat.not_lt_zero _)
  | none :: r, _ => ⟨0, rfl⟩
  | some a :: r, h => by
    obtain ⟨j, hj⟩ := none_at r (by
      rw [List.filterMap_cons_some (f := id) (a := some a) (b := a) rfl, List.length_cons, List.length_cons] at h
      omega)
    exact ⟨j + 1, hj⟩
theorem set_perm {l : List (Option Nat)} {j k : Nat} (h : l[j]? = some none) : ((l.set j (some k)).filterMap id).Perm (k :: l.filterMap id) := by
  obtain ⟨hj, e⟩ := List.getElem?_eq_some_iff.mp h
  have e1 : l = l.take j ++ none :: l.drop (j + 1) := by
    rw [← e, List.getElem_cons_drop hj, List.take_append_drop]
  have e2 : l.set j (some k) = l.take j ++ some k :: l.drop (j + 1) := by
    rw [List.set_eq_take_append_cons_drop, if_pos hj]
  have e3 : l.filterMap id = (l.take j).filterMap id ++ (l.drop (j + 1)).filterMap id := by
    have := congrArg (List.filterMap id) e1
    rw [this, List.filterMap_append, List.filterMap_cons_none (f := id) rfl]
  rw [e2, e3, List.filterMap_append, List.filterMap_cons_some (f := id) (a := some k) (b := k) rfl]
  exact List.perm_middle
theorem free_of (mask : Nat) (owner : Array (Option Nat)) : ∀ (fuel i pt n : Nat), n < fuel → owner.getD (lpN mask n (i, pt)).1 (some 0) = none → ∃ j, SetTable.layClean.free mask owner fuel i pt = some j ∧ owner.getD j (some 0) = none
  | 0, i, pt, n, h, _ => absurd h (Nat.not_lt_zero _)
  | fuel + 1, i, pt, n, h, hn => by
    have e : SetTable.layClean.free mask owner (fuel + 1) i pt = (match List.find? (fun k => (owner.getD (i + k) (some 0)).isNone) (List.range (SetTable.runEnd mask i + 1 - i)) with
      | some k => some (i + k)
      | none => SetTable.layClean.free mask owner fuel (SetTable.leap mask i pt).1 (SetTable.leap mask i pt).2) := rfl
    rw [e]
    cases q : List.find? (fun k => (owner.getD (i + k) (some 0)).isNone) (List.range (SetTable.runEnd mask i + 1 - i)) with
    | some k =>
      refine ⟨i + k, rfl, ?_⟩
      have := List.find?_some q
      exact Option.isNone_iff_eq_none.mp this
    | none =>
      cases n with
      | zero =>
        exfalso
        have hr : 0 ∈ List.range (SetTable.runEnd mask i + 1 - i) := List.mem_range.mpr (by unfold SetTable.runEnd; split <;> omega)
        have := List.find?_eq_none.mp q 0 hr
        rw [show lpN mask 0 (i, pt) = (i, pt) from rfl] at hn
        have hn : owner.getD i (some 0) = none := hn
        rw [Nat.add_zero, hn] at this
        exact this rfl
      | succ n => exact free_of mask owner fuel _ _ n (by omega) hn
theorem getD_at {owner : Array (Option Nat)} {j : Nat} (h : owner.getD j (some 0) = none) : owner.toList[j]? = some none := by
  rw [Array.getD_eq_getD_getElem?] at h
  rw [Array.getElem?_toList]
  cases q : owner[j]? with
  | none => rw [q] at h; cases h
  | some v => rw [q] at h; rw [show v = none from h]
def layStep (mask : Nat) (acc : Option (Array (Option Nat) × Nat)) (h : Int) : Option (Array (Option Nat) × Nat) := do
  let x ← acc
  match x with
  | (owner, k) => do
    let j ← SetTable.layClean.free mask owner (SetTable.turns mask) (SetTable.bits h % (mask + 1)) (SetTable.bits h)
    pure (owner.setIfInBounds j (some k), k + 1)
theorem clean_fold {mask : Nat} (hm : mask = 7 ∨ mask = 31) : ∀ (hs : List Int) (owner : Array (Option Nat)) (k : Nat), owner.size = mask + 1 → (owner.toList.filterMap id).Perm (List.range k) → k + hs.length ≤ mask →
    ∃ owner', hs.foldl (layStep mask) (some (owner, k)) = some (owner', k + hs.length) ∧ owner'.size = mask + 1 ∧ (owner'.toList.filterMap id).Perm (List.range (k + hs.length))
  | [], owner, k, h1, h2, _ => ⟨owner, rfl, h1, h2⟩
  | h :: hs, owner, k, h1, h2, h3 => by
    rw [List.length_cons] at h3
    obtain ⟨j0, hj0⟩ := none_at owner.toList (by rw [h2.length_eq, List.length_range, Array.length_toList]; omega)
    have hj0l := (List.getElem?_eq_some_iff.mp hj0).1
    rw [Array.length_toList] at hj0l
    have hlt := Nat.mod_lt (SetTable.bits h) (show 0 < mask + 1 by omega)
    obtain ⟨n, hn, e⟩ := orbit hm (i := SetTable.bits h % (mask + 1)) (pt := SetTable.bits h) (j := j0) (by omega) (bits_lt h) (by omega)
    obtain ⟨j, ej, hj⟩ := free_of mask owner (SetTable.turns mask) (SetTable.bits h % (mask + 1)) (SetTable.bits h) n (by unfold SetTable.turns; omega) (by
      rw [e, Array.getD_eq_getD_getElem?, ← Array.getElem?_toList, hj0]; rfl)
    have hjl := getD_at hj
    have es : layStep mask (some (owner, k)) h = some (owner.setIfInBounds j (some k), k + 1) := by
      show (do let j ← SetTable.layClean.free mask owner (SetTable.turns mask) (SetTable.bits h % (mask + 1)) (SetTable.bits h); pure (owner.setIfInBounds j (some k), k + 1)) = _
      rw [ej]; rfl
    have hp : ((owner.setIfInBounds j (some k)).toList.filterMap id).Perm (List.range (k + 1)) := by
      rw [Array.toList_setIfInBounds]
      refine (set_perm hjl).trans ?_
      rw [List.range_succ]
      exact (List.Perm.cons _ h2).trans (List.perm_append_singleton _ _).symm
    obtain ⟨o', r1, r2, r3⟩ := clean_fold hm hs (owner.setIfInBounds j (some k)) (k + 1) (by rw [Array.size_setIfInBounds]; exact h1) hp (by omega)
    refine ⟨o', ?_, r2, ?_⟩
    · rw [List.foldl_cons, es, r1, List.length_cons]
      congr 2; omega
    · rw [List.length_cons, show k + (hs.length + 1) = k + 1 + hs.length by omega]; exact r3
theorem owner_list (owner : Array (Option Nat)) : (List.range owner.size).map (fun j => owner.getD j none) = owner.toList := by
  apply List.ext_getElem?
  intro i
  rw [List.getElem?_map]
  by_cases h : i < owner.size
  · rw [List.getElem?_range h, Array.getElem?_toList, Array.getElem?_eq_getElem h]
    simp [h]
  · rw [List.getElem?_eq_none (by rw [List.length_range]; omega), List.getElem?_eq_none (by rw [Array.length_toList]; omega)]; rfl
theorem laid_ok {mask : Nat} (hm : mask = 7 ∨ mask = 31) (fi mo : Nat) (L pl : Bool) (hs : Array Int) (hn : hs.size ≤ mask) : ∃ t order, SetTable.laid mask fi mo L pl hs = some (t, order) ∧ t.mask = mask ∧ t.dummies = #[] ∧ t.plain = pl ∧ t.led = L ∧ t.place.size = hs.size ∧ t.place.toList.Pairwise (· < ·) ∧ order.toList.Perm (List.range hs.size) := by
  obtain ⟨owner, e, hsz, hp⟩ := clean_fold hm hs.toList (Array.replicate (mask + 1) none) 0 (by rw [Array.size_replicate]) (by rw [Array.toList_replicate, List.filterMap_replicate_of_none rfl]; exact List.Perm.refl _) (by rw [Array.length_toList]; omega)
  rw [Nat.zero_add, Array.length_toList] at e hp
  have ec : SetTable.layClean mask hs = some owner := by
    have e2 : SetTable.layClean mask hs = Option.map (fun x => x.1) (Array.foldl (layStep mask) (some (Array.replicate (mask + 1) none, 0)) hs) := rfl
    rw [e2, ← Array.foldl_toList, e]; rfl
  have e1 : SetTable.laid mask fi mo L pl hs = some ({ mask := mask, place := (((List.range (mask + 1)).filterMap fun j => Option.map (fun x => (j, x)) (owner.getD j none)).map (·.1)).toArray, dummies := #[], finger := fi, led := L, moves := mo, plain := pl }, (((List.range (mask + 1)).filterMap fun j => Option.map (fun x => (j, x)) (owner.getD j none)).map (·.2)).toArray) := by
    unfold SetTable.laid
    rw [ec]; rfl
  have eo : (((List.range (mask + 1)).filterMap fun j => Option.map (fun x => (j, x)) (owner.getD j none)).map (·.2)) = owner.toList.filterMap id := by
    rw [List.map_filterMap, ← owner_list, List.filterMap_map, hsz]
    congr 1
    funext j
    show Option.map _ (Option.map _ _) = owner.getD j none
    cases owner.getD j none <;> rfl
  refine ⟨_, _, e1, rfl, rfl, rfl, rfl, ?_, ?_, ?_⟩
  · show (List.toArray _).size = _
    rw [List.size_toArray, List.length_map]
    have := congrArg List.length eo
    rw [List.length_map, hp.length_eq, List.length_range] at this
    exact this
  · show (List.toArray _).toList.Pairwise _
    rw [List.toList_toArray, List.map_filterMap]
    refine List.Pairwise.filterMap _ (fun a a' h b hb b' hb' => ?_) List.pairwise_lt_range
    have k1 : b = a := by
      cases q : owner.getD a none with
      | none => rw [q] at hb; cases hb
      | some z => rw [q] at hb; exact (Option.some.inj hb).symm
    have k2 : b' = a' := by
      cases q : owner.getD a' none with
      | none => rw [q] at hb'; cases hb'
      | some z => rw [q] at hb'; exact (Option.some.inj hb').symm
    rw [k1, k2]; exact h
  · show (List.toArray _).toList.Perm _
    rw [List.toList_toArray, eo]
    exact hp
theorem Tb.relay {L : Bool} {t : SetTable} {es : Array (Int × Value)} (T : Tb L t es.size 5) (h5 : es.size = 5) :
    ∃ es' t', relayAll t es (SetTable.grown es.size) = (es', t', false) ∧ es'.toList.Perm es.toList ∧ Tb L t' es'.size 4 := by
  obtain ⟨t', order, e, h1, h2, h3, h4, h6, h7, h8⟩ := laid_ok (mask := 31) (.inr rfl) t.finger (t.movedTo 31) t.led t.plain (es.map (·.1)) (by rw [Array.size_map]; omega)
  rw [Array.size_map] at h6 h8
  have er : t.relaid (es.map fun x => x.1) (SetTable.grown es.size) = some (t', order) := by
    unfold SetTable.relaid
    rw [h5]
    exact e
  have hfm : (Array.filterMap (fun x => es[x]?) order).toList.Perm es.toList := by
    rw [Array.toList_filterMap]
    refine (h8.filterMap _).trans ?_
    have : (List.range es.size).filterMap (fun x => es[x]?) = es.toList := by
      have : ∀ (l : List (Int × Value)), (List.range l.length).filterMap (fun x => l[x]?) = l := fun l => by
        have e0 : (List.range l.length).map (fun x => l[x]?) = l.map some := by
          apply List.ext_getElem?
          intro i
          rw [List.getElem?_map, List.getElem?_map]
          by_cases h : i < l.length
          · rw [List.getElem?_range h, List.getElem?_eq_getElem h]; simp [h]
          · rw [List.getElem?_eq_none (by rw [List.length_range]; omega), List.getElem?_eq_none (by omega)]; rfl
        have e1 : (List.range l.length).filterMap (fun x => l[x]?) = ((List.range l.length).map (fun x => l[x]?)).filterMap id := by rw [List.filterMap_map]; rfl
        rw [e1, e0, List.filterMap_map]
        show l.filterMap (fun x => some x) = l
        exact List.filterMap_some
      have h := this es.toList
      rw [Array.length_toList] at h
      simpa using h
    rw [this]
  have hz : (Array.filterMap (fun x => es[x]?) order).size = es.size := by
    rw [← Array.length_toList, hfm.length_eq, Array.length_toList]
  have T' : Tb L t' (Array.filterMap (fun x => es[x]?) order).size 4 := ⟨.inr ⟨h1, by omega⟩, h2, h3.trans T.plain, h4.trans T.led, by rw [hz]; exact h6, h7⟩
  refine ⟨Array.filterMap (fun x => es[x]?) order, t', ?_, hfm, T'⟩
  unfold relayAll
  rw [er]
  dsimp only
  rw [show coversAll order es.size = true from List.isPerm_iff.mpr h8, T'.fits (by decide)]
  rfl
theorem Tb.full {L : Bool} {t : SetTable} {n : Nat} (T : Tb L t n 5) : (t.tooFull = true ∧ n = 5) ∨ (t.tooFull = false ∧ Tb L t n 4) := by
  have e : t.tooFull = decide (n * 5 ≥ t.mask * 3) := by
    unfold SetTable.tooFull SetTable.fill
    rw [T.size, T.dums]; rfl
  rw [e]
  rcases T.mask with ⟨a, b⟩ | ⟨a, b⟩
  · by_cases h : n = 5
    · exact .inl ⟨decide_eq_true (by rw [a, h]; decide), h⟩
    · exact .inr ⟨decide_eq_false (by omega), ⟨.inl ⟨a, by omega⟩, T.dums, T.plain, T.led, T.size, T.rise⟩⟩
  · exact .inr ⟨decide_eq_false (by omega), ⟨.inr ⟨a, b⟩, T.dums, T.plain, T.led, T.size, T.rise⟩⟩
theorem pick_go {α : Type} (next : Nat → Nat) : ∀ (fuel k : Nat) (left : List α) (out : Array α), left.length ≤ fuel → (pickOrder.go next fuel k left out).toList.Perm (out.toList ++ left)
  | 0, k, left, out, h => by
    have : left = [] := List.length_eq_zero_iff.mp (by omega)
    subst this
    rw [List.append_nil]; exact List.Perm.refl _
  | fuel + 1, k, left, out, h => by
    have e : pickOrder.go next (fuel + 1) k left out = (match left[next k % left.length]? with
      | some x => pickOrder.go next fuel (k + 1) (left.eraseIdx (next k % left.length)) (out.push x)
      | none => out) := rfl
    rw [e]
    cases q : left[next k % left.length]? with
    | none =>
      have hl : left.length = 0 := by
        rcases Nat.eq_zero_or_pos left.length with z | z
        · exact z
        · have := Nat.mod_lt (next k) z
          rw [List.getElem?_eq_getElem this] at q; cases q
      rw [List.length_eq_zero_iff.mp hl, List.append_nil]
    | some x =>
      obtain ⟨hi, ex⟩ := List.getElem?_eq_some_iff.mp q
      refine (pick_go next fuel (k + 1) _ (out.push x) (by rw [List.length_eraseIdx_of_lt hi]; omega)).trans ?_
      rw [Array.toList_push, List.append_assoc]
      refine List.Perm.append_left _ ?_
      rw [List.eraseIdx_eq_take_drop_succ, List.singleton_append, ← ex]
      refine List.perm_middle.symm.trans ?_
      rw [List.getElem_cons_drop hi]
      first | done | rw [List.take_append_drop]
theorem pick_perm {α : Type} (next : Nat → Nat) (xs : Array α) : (pickOrder next xs).toList.Perm xs.toList := by
  have := pick_go next xs.size 0 xs.toList #[] (by rw [Array.length_toList]; exact Nat.le_refl _)
  exact this
end L2
set_option Elab.async false
set_option linter.all false
set_option maxRecDepth 100000
namespace L2
open PySem PySem.Spec PyProof.Rows
def ent (p : Int × Tok) : Int × Value := (hashInt p.1, .int p.1 p.2)
def SG (L : Bool) (h : Heap) (a : Addr) (ks : List (Int × Tok)) : Prop := ∃ o ep es t, h.get? a = some o ∧ o.ExactSet ∧ o.data = .set es ep t ∧ es.toList.Perm (ks.map ent) ∧ Tb L t es.size 4
theorem SG.keep {L : Bool} {h h' : Heap} {a : Addr} {l : List (Int × Tok)} (x : SG L h a l) (k : ∀ o, h.get? a = some o → h'.get? a = some o) : SG L h' a l := by
  obtain ⟨o, ep, es, t, e, r⟩ := x
  exact ⟨o, ep, es, t, k o e, r⟩
section
variable {prog : Program} {w : World} {A : Around} {E : Value → Shared → Prop} {s : Shared} {L : Bool} {a : Addr}
theorem elems_ent (prog : Program) (w : World) {es : Array (Int × Value)} {ks : List (Int × Tok)} (h : es.toList.Perm (ks.map ent)) : ElemsOf (intKind prog w) es.toList := by
  intro e he
  obtain ⟨p, hp, rfl⟩ := List.mem_map.mp (h.mem_iff.mp he)
  exact ⟨⟨p.1, intKind_is _ _ _ _, rfl⟩, rfl⟩
theorem add_SG {ks : List (Int × Tok)} {k : Int} {t : Tok} {Q : Bool → Shared → Prop} (hS : SG L s.heap a ks) (hlen : ks.length ≤ 17)
    (hQ : ∀ h' b, Heap.SameBut a s.heap h' → ((∃ p ∈ ks, p.1 = k) → SG L h' a ks) → ((∀ p ∈ ks, p.1 ≠ k) → SG L h' a ((k, t) :: ks)) → Q b { s with heap := h', toks := s.toks + 1 }) :
    wpAny (model prog w) A (setAdd a (.int k t)) Q E s := by
  obtain ⟨o, ep, es, tb, ho, hex, hd, hp, T⟩ := hS
  unfold setAdd
  refine wpAny_holding (wpAny_bind ((intKind prog w).pyHash (k := k) (intKind_is _ _ _ _) ?_))
  have hel := elems_ent prog w hp
  have hsz : es.size = ks.length := by rw [← Array.length_toList, hp.length_eq, List.length_map]
  have hfit := T.fits (by decide)
  have hscan : byScan (.int k t) es = true := byScan_of (knd := intKind prog w) rfl (by rw [hsz]; unfold scanBound; omega) hel
  unfold setAddHashed setAddHashedIn
  refine wpAny_holding (wpAny_bind (wpAny_setState_of (s := { s with toks := s.toks + 1 }) ho hd hfit ?_))
  dsimp only
  rw [hscan]
  simp only [↓reduceIte]
  unfold setAddByScan
  refine wpAny_bind ?_
  refine wpAny_bind (wpAny_rule ?_)
  refine wpAny_bind (wpAny_setScan_of (knd := intKind prog w) (k := k) (intKind_is _ _ _ _) ho hd hfit hel ?_)
  cases hr : List.findIdx? (fun e => (intKind prog w).is k e.2) es.toList with
  | some j =>
    dsimp only
    obtain ⟨hj, hpj, _⟩ := List.findIdx?_eq_some_iff_getElem.mp hr
    have hthere : ∃ p ∈ ks, p.1 = k := by
      obtain ⟨p, hp', e⟩ := List.mem_map.mp (hp.mem_iff.mp (List.getElem_mem hj))
      refine ⟨p, hp', ?_⟩
      rw [← e] at hpj
      obtain ⟨t', e2⟩ := Value.isInt_shape (show Value.isInt k (Value.int p.1 p.2) = true from hpj)
      injection e2
    refine wpAny_pure (wpAny_pure ?_)
    exact hQ s.heap false (Heap.SameBut.refl a s.heap) (fun _ => ⟨o, ep, es, tb, ho, hex, hd, hp, T⟩) fun hn => by
      obtain ⟨p, hp, e⟩ := hthere
      exact absurd e (hn p hp)
  | none =>
    dsimp only
    have hno : ∀ p ∈ ks, p.1 ≠ k := fun p hp' e => by
      have := List.findIdx?_eq_none_iff.mp hr (ent p) (hp.mem_iff.mpr (List.mem_map.mpr ⟨p, hp', rfl⟩))
      have h2 : (intKind prog w).is k (Value.int k p.2) = true := intKind_is _ _ _ _
      simp only [ent, e] at this
      rw [h2] at this
      cases this
    obtain ⟨es1, t1, e1, p1, T1, z1⟩ := T.lay (by omega) ((intKind prog w).hash k) (.int k t)
    have hpn : es1.toList.Perm (((k, t) :: ks).map ent) := p1.trans (List.Perm.cons _ hp)
    rw [e1]
    dsimp only
    refine wpAny_bind (wpAny_pure ?_)
    rw [if_pos T1.plain, hashByValue_scannable 8 (x := .int k t) rfl]
    refine wpAny_bind (wpAny_pure ?_)
    rw [if_pos (show plainKind (.int k t) = true from rfl)]
    refine wpAny_bind (wpAny_storeSet_of (s := { s with toks := s.toks + 1 }) ho hd ?_ (by rw [z1, sizeLine_eq]; omega))
    have g1 := Heap.get?_update_self (Obj.putSet es1 t1) ho (by rw [putSet_of _ _ hd]; rfl)
    rw [putSet_of _ _ hd] at g1
    rcases T1.full with ⟨f1, f5⟩ | ⟨f1, T4⟩
    · rw [f1]
      obtain ⟨es2, t2, e2, p2, T2⟩ := T1.relay f5
      rw [e2]
      simp only [Bool.not_false, Bool.and_true, if_true]
      refine wpAny_bind (wpAny_pure ?_)
      have z2 : es2.size = es1.size := by rw [← Array.length_toList, p2.length_eq, Array.length_toList]
      refine wpAny_bind (wpAny_storeSet_of (s := { s with heap := s.heap.update a (Obj.putSet es1 t1), toks := s.toks + 1 }) g1 rfl ?_ (by rw [z2, z1, sizeLine_eq]; omega))
      have g2 := Heap.get?_update_self (Obj.putSet es2 t2) g1 (by rw [putSet_of _ _ rfl]; rfl)
      rw [putSet_of _ _ rfl] at g2
      refine wpAny_pure (wpAny_pure ?_)
      exact hQ ((s.heap.update a (Obj.putSet es1 t1)).update a (Obj.putSet es2 t2)) true ((Heap.SameBut.update _ _ _).trans (Heap.SameBut.update _ _ _)) (fun ⟨p, hp, e⟩ => absurd e (hno p hp)) fun _ => ⟨_, _, es2, t2, g2, hex, rfl, p2.trans hpn, T2⟩
    · rw [f1]
      simp only [Bool.not_false, Bool.and_false, Bool.false_eq_true, if_false]
      refine wpAny_pure (wpAny_pure ?_)
      exact hQ (s.heap.update a (Obj.putSet es1 t1)) true (Heap.SameBut.update _ _ _) (fun ⟨p, hp, e⟩ => absurd e (hno p hp)) fun _ => ⟨_, _, es1, t1, g1, hex, rfl, hpn, T4⟩
structure KsOf (ks : List (Int × Tok)) (ns : List Int) : Prop where
  nd : (ks.map (·.1)).Nodup
  mem : ∀ k, k ∈ ks.map (·.1) ↔ k ∈ ns
  len : ks.length ≤ ns.length
theorem upd_loopG {I S : Addr} {fp wr : List Addr} {ns : List Int} {P : Nat → Value → Prop} {St : Nat → Heap → Prop} {R : Result → Shared → Prop} (W : Walks prog w A.in1 I fp wr ns.length P St)
    (hP : ∀ i v, P i v → ∃ k t, ns[i]? = some k ∧ v = .int k t) (hfp : ∀ c ∈ fp, c ≠ S) (hwr : S ∉ wr) (hlen : ns.length ≤ 18) :
    ∀ (j i : Nat) (s : Shared) (ks : List (Int × Tok)), i + j = ns.length → St i s.heap → SG L s.heap S ks → KsOf ks (ns.take i) →
      (∀ h' tk ks, SG L h' S ks → KsOf ks ns → (∀ b o, b ≠ S → b ∉ wr → s.heap.get? b = some o → h'.get? b = some o) → R (.ok (.ret .none)) { s with heap := h', toks := tk }) →
      codeAny (model prog w) A (.builtin "set.update.loop" ⟨[.ref S, .ref I], []⟩) R s := by
  intro j
  induction j with
  | zero =>
    intro i s ks hi st hS hk h
    have e : i = ns.length := by omega
    subst e
    rw [List.take_length] at hk
    exact upd_done W st fun h' tk k => h h' tk ks (hS.keep fun o e => k S o hwr e) hk fun b o _ hb e => k b o hb e
  | succ j ih =>
    intro i s ks hi st hS hk h
    refine upd_step W (i := i) (by omega) st fun v h2 tk2 hv st2 k2 => ?_
    obtain ⟨k, t, hn, rfl⟩ := hP i v hv
    have hl := hk.len
    rw [List.length_take] at hl
    have et : ns.take (i + 1) = ns.take i ++ [k] := by rw [List.take_succ, hn]; rfl
    refine add_SG (s := { s with heap := h2, toks := tk2 }) (hS.keep fun o e => k2 S o hwr e) (by omega) fun h3 b sb x1 x2 => ?_
    have st3 := W.frame _ _ _ st2 fun c hc o e => (sb.2 c (hfp c hc)).trans e
    by_cases hkm : ∃ p ∈ ks, p.1 = k
    · refine ih (i + 1) _ ks (by omega) st3 (x1 hkm) ⟨hk.nd, fun k' => ?_, by rw [et, List.length_append, List.length_take]; omega⟩ fun h' tk ks' y1 y2 kp => h h' tk ks' y1 y2 fun b o nb hb e => kp b o nb hb ((sb.2 b nb).trans (k2 b o hb e))
      rw [hk.mem, et, List.mem_append, List.mem_singleton]
      refine ⟨.inl, fun z => ?_⟩
      rcases z with z | z
      · exact z
      · obtain ⟨p, hp, e⟩ := hkm
        rw [z, ← e]
        exact (hk.mem _).mp (List.mem_map.mpr ⟨p, hp, rfl⟩)
    · have hno : ∀ p ∈ ks, p.1 ≠ k := fun p hp e => hkm ⟨p, hp, e⟩
      refine ih (i + 1) _ ((k, t) :: ks) (by omega) st3 (x2 hno) ⟨?_, fun k' => ?_, by rw [et, List.length_append, List.length_take, List.length_cons]; show _ ≤ _ + 1; omega⟩ fun h' tk ks' y1 y2 kp => h h' tk ks' y1 y2 fun b o nb hb e => kp b o nb hb ((sb.2 b nb).trans (k2 b o hb e))
      · rw [List.map_cons]
        refine List.nodup_cons.mpr ⟨fun m => ?_, hk.nd⟩
        obtain ⟨p, hp, e⟩ := List.mem_map.mp m
        exact hno p hp e
      · rw [List.map_cons, List.mem_cons, hk.mem, et, List.mem_append, List.mem_singleton]
        exact Or.comm
set_option maxHeartbeats 3200000 in
theorem call_set_tup {l : Addr} {its : Array Value} {ns : List Int} {Q : Value → Shared → Prop} (hh : A.handled = none) (hl : s.heap.IsTuple l its) (hi : IntsAre its.toList ns) (hlen : ns.length ≤ 18)
    (h : ∀ (h' : Heap) (tk : Nat) (ks : List (Int × Tok)), SG (Led w) h' s.heap.objs.size ks → KsOf ks ns → (∀ b o, b < s.heap.objs.size → s.heap.get? b = some o → h'.get? b = some o) → Q (.ref s.heap.objs.size) { s with heap := h', toks := tk }) :
    wpAny (model prog w) A (call (.type "set") [.ref l]) Q E s := by
  obtain ⟨c, tl, hmro⟩ := PySem.F.called_set.mro
  have hmade := PySem.F.called_set.made
  have hsub := PySem.F.called_set.sub
  refine wpAny_call (codeAny_of_tree ?_)
  show wpAny _ _ (callAny (.type "set") _) _ _ _
  refine wpAny_pure ⟨Code.quiet_builtin _ (by decide +kernel), codeAny_builtin PySem.F.entry_type_call ?_⟩
  rw [Around.under_plain (weight_type_call_type "set" [.ref l] []) rfl]
  have h1 := PySem.F.called_set.notType
  have h2 := PySem.F.called_set.canCreate
  have hct := PySem.F.typeCall_set_1 (.ref l)
  repeat (any_goals (first | assumption | wp_step))
  refine codeAny_mono (code_set_new_L (.ref l) (E := E) (Q₁ := fun obj s₁ => obj = .ref s.heap.objs.size ∧ s₁ = { s with heap := s.heap.push { cls := .type "set", dict := none, data := .set #[] 0 (.fresh 0 0 (Led w)) } }) ⟨rfl, rfl⟩) fun r s₁ hr => ?_
  cases r with
  | error e => exact hr
  | ok fl =>
    cases fl with
    | ret obj =>
      obtain ⟨rfl, rfl⟩ := hr
      generalize hled : Led w = led at h ⊢
      have hS : (s.heap.push { cls := .type "set", dict := none, data := .set #[] 0 (.fresh 0 0 led) }).get? s.heap.objs.size = some { cls := .type "set", dict := none, data := .set #[] 0 (.fresh 0 0 led) } := Heap.get?_push_size _ rfl
      have hT : Shared.TypeIs { s with heap := s.heap.push { cls := .type "set", dict := none, data := .set #[] 0 (.fresh 0 0 led) } } (.ref s.heap.objs.size) "set" := ⟨_, hS, rfl⟩
      have hli := PySem.F.called_set.init.lookup
      have hbi := PySem.F.called_set.init.bind (.ref s.heap.objs.size)
      repeat (any_goals (first | assumption | wp_step))
      refine codeAny_mono (codeAny_call_builtin (R := wants (fun r s₂ => r = .none ∧ ∃ h' tk ks, s₂ = { s with heap := h', toks := tk } ∧ SG led h' s.heap.objs.size ks ∧ KsOf ks ns ∧
          (∀ b o, b < s.heap.objs.size → s.heap.get? b = some o → h'.get? b = some o)) E) PySem.F.called_set.init.plain PySem.F.entry_set_init (check_set_init_1 hT ?_)) fun r₂ s₂ hr₂ => ?_
      · obtain ⟨ol, hol, hcl, nl, hdl⟩ := hl
        obtain ⟨ocls, odict, odata, oslots⟩ := ol
        simp only at hcl hdl
        subst hcl; subst hdl
        have hol' : (s.heap.push { cls := .type "set", dict := none, data := .set #[] 0 (.fresh 0 0 led) }).get? l = some { cls := .type "tuple", dict := odict, data := .seq its nl, slots := oslots } := Heap.get?_push_of_some _ hol
        have hsls := PySem.F.sub_tuple_set
        have hslf := PySem.F.sub_tuple_frozenset
        have hne : (Value.type "tuple" == Value.type "dict") = false := by decide
        have hl1 : (s.heap.push { cls := .type "set", dict := none, data := .set #[] 0 (.fresh 0 0 led) }).IsTuple l its := ⟨_, hol', rfl, nl, rfl⟩
        unfold Builtin.«set.__init__» noKeywords Builtin.Frozenset.updateFrom
        generalize hPI : pyIter = PI
        wp_walk
        subst hPI
        refine wpAny_pyIter_tuple hl1 ?_
        refine wpAny_bind (wpAny_runValue ?_)
        have hlS : l < s.heap.objs.size := Heap.lt_size hol
        have hh3 : A.in1.in1.in1.handled = none := by simp [hh]
        generalize hH1 : s.heap.push { cls := .type "set", dict := none, data := .set #[] 0 (.fresh 0 0 led) } = H1 at *
        have szH1 : H1.objs.size = s.heap.objs.size + 1 := by rw [← hH1, Heap.size_push]
        have hneI : l ≠ H1.objs.size := by rw [szH1]; exact Nat.ne_of_lt (Nat.lt_succ_of_lt hlS)
        have W := Walks.tuple (prog := prog) (w := w) hh3 H1.objs.size l hneI its
        have hsz : its.size = ns.length := by rw [← hi.length, Array.length_toList]
        rw [hsz] at W
        generalize hS0 : s.heap.objs.size = S at *
        have SI : S ≠ H1.objs.size := by omega
        have lS : l ≠ S := Nat.ne_of_lt hlS
        refine upd_loopG (L := led) W (fun i v hv => ?_) (fun c hc => ?_) (by simpa using SI) hlen ns.length 0 _ [] (by omega) ⟨⟨_, Heap.get?_push_size _ rfl, rfl, rfl⟩, hl1.push _⟩ ?_ ⟨List.nodup_nil, fun k => by simp, Nat.le_refl _⟩ fun h6 tk6 ks6 x6 y6 k6 => ?_
        · have hv' : its[i]? = some v := hv
          have hil : i < its.toList.length := by
            rw [Array.length_toList]
            exact (Array.getElem?_eq_some_iff.mp hv').1
          have e1 : its.toList[i]? = some v := by rw [Array.getElem?_toList]; exact hv'
          obtain ⟨k, t, e2, e3⟩ := IntsAre.at hi i v e1
          exact ⟨k, t, e3, e2⟩
        · rcases List.mem_cons.mp hc with z | z
          · rw [z]; exact Ne.symm SI
          · have z' : c = l := by simpa using z
            rw [z']; exact lS
        · exact ⟨_, 0, #[], _, Heap.get?_push_of_some _ hS, ⟨rfl, rfl, rfl⟩, rfl, List.Perm.refl _, ⟨.inl ⟨rfl, Nat.zero_le _⟩, rfl, rfl, rfl, rfl, List.Pairwise.nil⟩⟩
        · show wpAny _ _ _ _ _ _
          refine wpAny_pure ?_
          show wpAny _ _ (ret Value.none) _ _ _
          refine wpAny_pure ⟨rfl, h6, tk6, ks6, rfl, x6, y6, fun c o hc e => ?_⟩
          have c1 : c ≠ S := Nat.ne_of_lt hc
          have c2 : c ∉ [H1.objs.size] := by
            intro z
            have z' : c = H1.objs.size := by simpa using z
            omega
          exact k6 c o c1 c2 (Heap.get?_push_of_some _ (hH1 ▸ Heap.get?_push_of_some _ e))
      · cases r₂ with
        | error e => exact hr₂
        | ok fl₂ =>
          cases fl₂ with
          | ret r =>
            obtain ⟨rfl, h', tk, ks, rfl, hS', hK', hk'⟩ := hr₂
            repeat (any_goals (first | assumption | wp_step))
            exact h _ _ _ hS' hK' hk'
          | _ => exact hr₂.elim
    | _ => exact hr.elim
end
end L2
set_option Elab.async false
set_option linter.all false
set_option maxRecDepth 100000
namespace L2
open PySem PySem.Spec PyProof.Rows
def ordG (w : World) (S : Addr) (ep : Nat) (es : Array (Int × Value)) : Array (Int × Value) := if w.params.followText "set-order" then pickOrder (w.params.setOrder S ep) es else es
def slotH (w : World) (t : SetTable) (i : Nat) : Nat := if w.params.followText "set-order" then 0 else slotG t.place i
theorem ordG_perm (w : World) (S : Addr) (ep : Nat) (es : Array (Int × Value)) : (ordG w S ep es).toList.Perm es.toList := by
  unfold ordG
  split
  · exact pick_perm _ _
  · exact List.Perm.refl _
theorem ordG_size (w : World) (S : Addr) (ep : Nat) (es : Array (Int × Value)) : (ordG w S ep es).size = es.size := by
  rw [← Array.length_toList, (ordG_perm w S ep es).length_eq, Array.length_toList]
section
variable {prog : Program} {w : World} {A : Around} {E : Value → Shared → Prop} {s : Shared} {S : Addr} {o : Obj} {ep : Nat} {es : Array (Int × Value)} {t : SetTable}
theorem wp_setNextG {i : Nat} {Q : Option (Value × Nat) → Shared → Prop} (T : Tb (Led w) t es.size 4) (ho : s.heap.get? S = some o) (hd : o.data = .set es ep t) (hi : i ≤ es.size)
    (h : Q (((ordG w S ep es)[i]?).map fun e => (e.2, slotH w t (i + 1))) s) : wpAny (model prog w) A (setNext S (slotH w t i) i ep) Q E s := by
  have hfit := T.fits (by decide)
  unfold setNext
  refine wpAny_bind (wpAny_setState_of ho hd hfit ?_)
  dsimp only
  refine wpAny_bind (wp_byText ?_)
  cases hb : w.params.followText "set-order" with
  | true =>
    have e1 : ordG w S ep es = pickOrder (w.params.setOrder S ep) es := by unfold ordG; rw [hb]; rfl
    have e2 : ∀ i, slotH w t i = 0 := fun i => by unfold slotH; rw [hb]; rfl
    rw [e1, e2] at h
    rw [e2]
    simp only [if_true, bne_self_eq_false, Bool.false_eq_true, if_false]
    refine wpAny_bind ?_
    unfold setWalk
    refine wpAny_bind (wpAny_setState_of ho hd hfit ?_)
    dsimp only
    refine wpAny_bind (wp_byText ?_)
    rw [hb]
    simp only [if_true]
    refine wpAny_bind (wpAny_askSetting (wpAny_pure (wpAny_pure h)))
  | false =>
    have e1 : ordG w S ep es = es := by unfold ordG; rw [hb]; rfl
    have e2 : ∀ i, slotH w t i = slotG t.place i := fun i => by unfold slotH; rw [hb]; rfl
    have eL : t.led = true := by rw [T.led]; unfold Led; rw [hb]; rfl
    rw [e1, e2] at h
    rw [e2]
    simp only [Bool.false_eq_true, if_false]
    have hbl := below_slot T.rise (i := i) (by rw [T.size]; exact hi)
    refine wpAny_ite_split (fun hab => absurd (show (!t.plain && decide (es.size > 1)) = true from hab) (by rw [T.plain]; simp)) (fun _ => ?_)
    refine wpAny_bind ?_
    show wpAny _ _ (if (!t.led && !es.isEmpty) = true then unsupported "set:maker-not-led" else pure ()) _ _ _
    rw [eL]
    refine wpAny_pure (wpAny_pure ?_)
    rw [hbl]
    cases q : es[i]? with
    | none => rw [q] at h; exact h
    | some p =>
      rw [q] at h
      have hlt : i < t.place.size := by rw [T.size]; exact (Array.getElem?_eq_some_iff.mp q).1
      rw [Array.getElem?_eq_getElem hlt]
      have e5 : slotG t.place (i + 1) = t.place[i] + 1 := by
        unfold slotG
        rw [if_neg (by omega), Nat.add_sub_cancel, Array.getElem?_eq_getElem hlt]
        rfl
      rw [e5] at h
      exact h
def IsSetItG (w : World) (h : Heap) (I S : Addr) (t : SetTable) (n ep i : Nat) : Prop :=
  h.get? I = some { cls := .type "set_iterator", data := .fields #[rawInt (slotH w t i : Nat), rawInt (i : Nat), .ref S, rawInt (n : Nat), rawInt (ep : Nat)] }
theorem setWalksG (hh : A.handled = none) (I S : Addr) (hne : S ≠ I) (o : Obj) (ep : Nat) (es : Array (Int × Value)) (t : SetTable) (T : Tb (Led w) t es.size 4) (hd : o.data = .set es ep t) :
    Walks prog w A I [I, S] [I] es.size (fun i v => ∃ k, (ordG w S ep es)[i]? = some (k, v)) (fun i h => IsSetItG w h I S t es.size ep i ∧ h.get? S = some o) where
  sub := fun b hb => by simp at hb; simp [hb]
  frame := fun _ _ _ st hk => ⟨hk I (by simp) _ st.1, hk S (by simp) _ st.2⟩
  item := fun i s Q E hi st hQ => by
    obtain ⟨hit, hS⟩ := st
    have hT : s.TypeIs (.ref I) "set_iterator" := ⟨_, hit, rfl⟩
    unfold pyNext
    refine wpAny_bind (wpAny_attempt (wpAny_callSpecial?_slot (name := Str.ofString "__next__") hT slot_set_iterator_next
      (wpAny_call_entry slot_set_iterator_next hT entry_set_iterator_next ?_ (args_set_iterator_next_1 _))))
    unfold Builtin.«set_iterator.__next__» slotArgs
    simp only [List.isEmpty_nil, Bool.not_true, Bool.false_eq_true, ↓reduceIte, List.length_nil, bne_self_eq_false]
    refine wpAny_bind (wpAny_pure ?_)
    dsimp only
    refine wpAny_bind (wpAny_fieldsOf hit rfl ?_)
    show wpAny _ _ (setEntries S >>= _) _ _ s
    refine wpAny_bind (wpAny_bind (wpAny_setState_of hS hd (T.fits (by decide)) (wpAny_pure ?_)))
    dsimp only
    refine wpAny_ite_split (fun hab => absurd hab (by simp)) (fun _ => ?_)
    show wpAny _ _ (setNext S (slotH w t i : Int).toNat (i : Int).toNat (ep : Int).toNat >>= _) _ _ s
    rw [Int.toNat_natCast, Int.toNat_natCast, Int.toNat_natCast]
    refine wpAny_bind (wp_setNextG T hS hd (by omega) ?_)
    obtain ⟨⟨k, v⟩, hkv⟩ : ∃ e, (ordG w S ep es)[i]? = some e := ⟨_, Array.getElem?_eq_getElem (by rw [ordG_size]; exact hi)⟩
    rw [hkv]
    show wpAny _ _ (setField (Value.ref I) 0 (rawInt ↑(slotH w t (i + 1))) >>= _) _ _ s
    refine wpAny_bind (wpAny_setField_rec hit (by show 0 < 5; decide) fun h1 g1 sb1 => ?_)
    refine wpAny_bind (wpAny_setField_rec g1 (by show 1 < 5; decide) fun h2 g2 sb2 => ?_)
    refine wpAny_pure ⟨v, rfl, wpAny_pure ?_⟩
    refine hQ v h2 s.toks ⟨k, hkv⟩ ⟨?_, (sb2.2 S hne).trans ((sb1.2 S hne).trans hS)⟩ fun b ob hb e => ?_
    · unfold IsSetItG
      rw [g2]
      congr 1
    · have hb' : b ≠ I := by simpa using hb
      exact (sb2.2 b hb').trans ((sb1.2 b hb').trans e)
  done := fun s Q E st hQ => by
    obtain ⟨hit, hS⟩ := st
    have hT : s.TypeIs (.ref I) "set_iterator" := ⟨_, hit, rfl⟩
    unfold pyNext
    refine wpAny_bind (wpAny_attempt (wpAny_callSpecial?_slot (name := Str.ofString "__next__") hT slot_set_iterator_next
      (wpAny_call_entry slot_set_iterator_next hT entry_set_iterator_next ?_ (args_set_iterator_next_1 _))))
    unfold Builtin.«set_iterator.__next__» slotArgs
    simp only [List.isEmpty_nil, Bool.not_true, Bool.false_eq_true, ↓reduceIte, List.length_nil, bne_self_eq_false]
    refine wpAny_bind (wpAny_pure ?_)
    dsimp only
    refine wpAny_bind (wpAny_fieldsOf hit rfl ?_)
    show wpAny _ _ (setEntries S >>= _) _ _ s
    refine wpAny_bind (wpAny_bind (wpAny_setState_of hS hd (T.fits (by decide)) (wpAny_pure ?_)))
    dsimp only
    refine wpAny_ite_split (fun hab => absurd hab (by simp)) (fun _ => ?_)
    show wpAny _ _ (setNext S (slotH w t es.size : Int).toNat (es.size : Int).toNat (ep : Int).toNat >>= _) _ _ s
    rw [Int.toNat_natCast, Int.toNat_natCast, Int.toNat_natCast]
    refine wpAny_bind (wp_setNextG T hS hd (Nat.le_refl _) ?_)
    have hkv : (ordG w S ep es)[es.size]? = none := by rw [Array.getElem?_eq_none]; rw [ordG_size]; exact Nat.le_refl _
    rw [hkv]
    show wpAny _ _ (setField (Value.ref I) 2 Value.none >>= _) _ _ s
    refine wpAny_bind (wpAny_setField_rec hit (by show 2 < 5; decide) fun h1 g1 sb1 => ?_)
    show wpAny _ _ (newExc (.type "StopIteration") [] >>= _) _ _ _
    refine wpAny_bind ?_
    simp only [newExc, newTuple]
    refine wpAny_bind (wpAny_newObj_type ?_ (by size_fits))
    refine wpAny_bind (m := firstArgMember _ _) (wpAny_of_eq (a := Value.none) (by first | rfl | (simp only [firstArgMember]; rfl)) ?_)
    refine wpAny_newObj_type ?_ (by size_fits)
    simp only [raiseNew]
    refine wpAny_bind (wpAny_handled ?_)
    first | rw [show A.in1.handled = none from hh] | rw [hh]
    refine wpAny_bind (wpAny_pure (wpAny_throw ?_))
    refine wpAny_bind (wpAny_isInstance (T := "StopIteration") (b := true) ⟨_, Heap.get?_push_size _ rfl, rfl⟩ isSubtype_stop ?_)
    refine wpAny_pure (hQ _ s.toks fun b ob hb e => ?_)
    have hb' : b ≠ I := by simpa using hb
    exact Heap.get?_push_of_some _ (Heap.get?_push_of_some _ ((sb1.2 b hb').trans e))
  self := fun i s Q E st h => by
    obtain ⟨hit, hS⟩ := st
    have hT : s.TypeIs (.ref I) "set_iterator" := ⟨_, hit, rfl⟩
    refine wpAny_pyIter_slot hT slot_set_iterator_iter (wpAny_call_entry slot_set_iterator_iter hT entry_set_iterator_iter ?_ (args_set_iterator_iter_1 _))
    show wpAny _ _ (ret (.ref I)) _ _ s
    exact wpAny_pure ⟨_, rfl, "set_iterator", _, hT, slot_set_iterator_next.lookup, h⟩
theorem pyIter_setG {Q : Value → Shared → Prop} (T : Tb (Led w) t es.size 4) (ho : s.heap.get? S = some o) (hex : o.ExactSet) (hd : o.data = .set es ep t)
    (h : Q (.ref s.heap.objs.size) { s with heap := s.heap.push { cls := .type "set_iterator", data := .fields #[rawInt (slotH w t 0 : Nat), rawInt ((0 : Nat) : Int), .ref S, rawInt (es.size : Nat), rawInt (ep : Nat)] } }) : wpAny (model prog w) A (pyIter (.ref S)) Q E s := by
  have hT : s.TypeIs (.ref S) "set" := ⟨o, ho, hex.1⟩
  refine wpAny_pyIter_slot hT PySem.F.slot_set_iter (wpAny_call_entry PySem.F.slot_set_iter hT entry_set_iter ?_ (PySem.F.args_set_iter_1 _))
  unfold Builtin.«frozenset.__iter__» Builtin.Frozenset.slot0 slotArgs
  simp only [List.isEmpty_nil, Bool.not_true, Bool.false_eq_true, ↓reduceIte, bind_assoc, List.length_nil, bne_self_eq_false]
  refine wpAny_bind (wpAny_pure ?_)
  dsimp only
  refine wpAny_bind (m := Builtin.Frozenset.addrOf (.ref S)) (wpAny_pure ?_)
  unfold Builtin.Frozenset.sizeOf setEntries
  refine wpAny_bind (wpAny_bind (wpAny_bind (wpAny_setState_of ho hd (T.fits (by decide)) (wpAny_pure (wpAny_pure ?_)))))
  dsimp only
  unfold setDrawn
  refine wpAny_bind (wpAny_bind (wpAny_setState_of ho hd (T.fits (by decide)) (wpAny_bind (wp_byText (wpAny_pure ?_)))))
  have hb : ∀ b : Bool, (!b && false) = false := by decide
  refine wpAny_ite_split (fun hab => absurd (show (!(w.params.followText "set-order") && (!t.plain && decide (es.size > 1))) = true from hab) (by rw [T.plain]; rw [show (!true && decide (es.size > 1)) = false from rfl, hb]; decide)) (fun _ => ?_)
  refine wpAny_bind (wpAny_pure ?_)
  unfold setEpoch
  refine wpAny_bind (wpAny_bind (wpAny_setState_of ho hd (T.fits (by decide)) (wpAny_pure ?_)))
  dsimp only
  have e0 : slotH w t 0 = 0 := by unfold slotH slotG; split <;> rfl
  refine wpAny_bind (wpAny_newObj_type (wpAny_pure ⟨_, rfl, "set_iterator", _, ⟨_, Heap.get?_push_size _ rfl, rfl⟩, slot_set_iterator_next.lookup, ?_⟩))
  rw [e0] at h
  exact h
theorem hint_setG {Q : Bool → Shared → Prop} (T : Tb (Led w) t es.size 4) (ho : s.heap.get? S = some o) (hex : o.ExactSet) (hd : o.data = .set es ep t)
    (h : ∀ b, Q b s) : wpAny (model prog w) A (Builtin.List.listLengthHint (.ref S)) Q E s := by
  have hT : s.TypeIs (.ref S) "set" := ⟨o, ho, hex.1⟩
  unfold Builtin.List.listLengthHint
  refine wpAny_bind (wpAny_specialOf hT PySem.F.slot_set_len.lookup ?_)
  generalize hid : ("set.__len__" : String) = id0
  wp_delta
  rw [show splitId id0 = some ("set", "__len__") from by subst hid; decide +kernel]
  subst hid
  refine wpAny_bind (wpAny_isInstance (T := "set") (b := true) hT (by rw [isSubtype_type]; kernel_rfl) ?_)
  refine wpAny_ite_split (fun hab => absurd hab (by decide)) (fun _ => ?_)
  refine wpAny_ite_split (fun _ => ?_) (fun hab => absurd (by decide +kernel) hab)
  refine wpAny_bind (wpAny_typeOf hT ?_)
  exact wpAny_pure (h false)
theorem collect_setG {Q : List Value → Shared → Prop} (hh : A.handled = none) (T : Tb (Led w) t es.size 4) (ho : s.heap.get? S = some o) (hex : o.ExactSet) (hd : o.data = .set es ep t)
    (h : ∀ h' tk vs, (∀ b o, s.heap.get? b = some o → h'.get? b = some o) → vs = (ordG w S ep es).toList.map (·.2) → Q vs { s with heap := h', toks := tk }) : wpAny (model prog w) A (collect (.ref S)) Q E s := by
  refine collect_by fun R hR => ?_
  generalize hD : s.heap.objs.size = D at *
  have hSD : @LT.lt Nat instLTNat S D := by rw [← hD]; exact Heap.lt_size ho
  generalize hH0 : s.heap.push { cls := .type "list", data := .seq ([] : List Value).toArray } = H0
  have szH0 : H0.objs.size = D + 1 := by rw [← hH0, Heap.size_push, hD]
  have ho' : H0.get? S = some o := by rw [← hH0]; exact Heap.get?_push_of_some _ ho
  have hDl : H0.get? D = some { cls := .type "list", data := .seq #[] 0 } := by rw [← hH0, ← hD]; exact Heap.get?_push_size _ rfl
  have old0 : ∀ b ob, s.heap.get? b = some ob → H0.get? b = some ob := fun b ob e => by rw [← hH0]; exact Heap.get?_push_of_some _ e
  unfold Builtin.List.listExtendWith
  refine wpAny_bind (wpAny_typeOf (T := "set") ⟨o, ho', hex.1⟩ ?_)
  have h1 : Builtin.List.listSameRef (.ref D) (.ref S) = false := by simp [Builtin.List.listSameRef]; exact Nat.ne_of_gt hSD
  have h2 : (Value.type "set" == Value.type "list") = false := by decide
  have h3 : (Value.type "set" == Value.type "tuple") = false := by decide
  simp only [h1, h2, h3, Bool.or_false, Bool.false_eq_true, if_false]
  refine wpAny_bind (pyIter_setG (s := { s with heap := H0 }) T ho' hex hd ?_)
  generalize hI : H0.objs.size = I at *
  have W := (setWalksG (prog := prog) (w := w) (A := A.in1) hh I S (Nat.ne_of_lt (by omega)) o ep es t T hd).toS
  have key : ∀ (hp : Heap) (c tk : Nat), IsSetItG w hp I S t es.size ep 0 → hp.get? S = some o → (∀ b ob, b ≠ D → H0.get? b = some ob → hp.get? b = some ob) → hp.get? D = some { cls := .type "list", data := .seq #[] c } →
      codeAny (model prog w) A (.builtin "list.extend.loop" ⟨[.ref D, .ref I, .ref D], []⟩) R { s with heap := hp, toks := tk } := by
    intro hp c tk hit hS hk hDl'
    refine codeAny_extend_loopS W (by rw [sizeLine_eq]; rcases T.mask with ⟨_, b⟩ | ⟨_, b⟩ <;> omega) D (by
      simp only [List.mem_cons, List.mem_singleton, List.not_mem_nil, or_false, not_or]
      exact ⟨Nat.ne_of_lt (by omega), Nat.ne_of_gt hSD⟩) (.ref D) es.size 0 _ #[] c rfl (Nat.zero_le _) ⟨hit, hS⟩ hDl' (ItemsOf.nil _) fun s' acc' c' hm hS' hacc => ?_
    rw [Moved.eq_with hm]
    refine hR { s with heap := s'.heap, toks := s'.toks } acc' c' hS' (h s'.heap s'.toks acc'.toList (fun b ob e => hm.heap b ob (fun hmem => ?_) (hk b ob ?_ (old0 b ob e))) ?_)
    · have hb : @LT.lt Nat instLTNat b D := by rw [← hD]; exact Heap.lt_size e
      rcases List.mem_cons.mp hmem with z | z
      · exact absurd z (Nat.ne_of_lt hb)
      · have z' : b = I := by simpa using z
        exact absurd z' (Nat.ne_of_lt (by omega))
    · have hb : @LT.lt Nat instLTNat b D := by rw [← hD]; exact Heap.lt_size e
      exact Nat.ne_of_lt hb
    · obtain ⟨hs, hi⟩ := hacc
      apply List.ext_getElem?
      intro j
      rw [List.getElem?_map, Array.getElem?_toList, Array.getElem?_toList]
      cases e : acc'[j]? with
      | none =>
        have hj : es.size ≤ j := by
          rw [← hs]
          exact Array.getElem?_eq_none_iff.mp e
        rw [Array.getElem?_eq_none (by rw [ordG_size]; exact hj)]
        rfl
      | some v =>
        obtain ⟨k, hk⟩ := hi j v e
        rw [hk]
        rfl
  have hit0 : IsSetItG w (H0.push { cls := .type "set_iterator", data := .fields #[rawInt (slotH w t 0 : Nat), rawInt ((0 : Nat) : Int), .ref S, rawInt (es.size : Nat), rawInt (ep : Nat)] }) I S t es.size ep 0 := by
    rw [← hI]; exact Heap.get?_push_size _ rfl
  have hD1 := Heap.get?_push_of_some { cls := .type "set_iterator", data := .fields #[rawInt (slotH w t 0 : Nat), rawInt ((0 : Nat) : Int), .ref S, rawInt (es.size : Nat), rawInt (ep : Nat)] } hDl
  refine wpAny_bind (wpAny_holding (hint_setG (s := { s with heap := H0.push { cls := .type "set_iterator", data := .fields #[rawInt (slotH w t 0 : Nat), rawInt ((0 : Nat) : Int), .ref S, rawInt (es.size : Nat), rawInt (ep : Nat)] } }) T (Heap.get?_push_of_some _ ho') hex hd fun bb => ?_))
  have DI : D ≠ I := Nat.ne_of_lt (by omega)
  refine wpAny_ite_split (fun _ => ?_) (fun _ => wpAny_pure ⟨plainId_quiet PySem.F.plain_extend_loop _, key _ 0 _ hit0 (Heap.get?_push_of_some _ ho') (fun b ob _ e => Heap.get?_push_of_some _ e) hD1⟩)
  refine wpAny_bind (wpAny_rule ?_)
  refine wpAny_bind ?_
  show wpAny _ _ (updateSeq D (·.push .none) >>= fun _ => updateSeq D (·.pop)) _ _ _
  refine wpAny_bind (wpAny_updateSeq hD1 rfl ?_)
  have hS₂ := Heap.get?_update_self (Obj.mapSeq (·.push Value.none)) hD1 rfl
  refine wpAny_updateSeq (hz := by seq_fits) hS₂ rfl ?_
  have hS₃ := Heap.get?_update_self (Obj.mapSeq (·.pop)) hS₂ rfl
  refine wpAny_pure ⟨plainId_quiet PySem.F.plain_extend_loop _, key _ _ _ ?_ ?_ (fun b ob hb e => ?_) hS₃⟩
  · exact (Heap.get?_update_other _ _ DI).trans ((Heap.get?_update_other _ _ DI).trans hit0)
  · exact (Heap.get?_update_other _ _ (Nat.ne_of_gt hSD)).trans ((Heap.get?_update_other _ _ (Nat.ne_of_gt hSD)).trans (Heap.get?_push_of_some _ ho'))
  · exact (Heap.get?_update_other _ _ (Ne.symm hb)).trans ((Heap.get?_update_other _ _ (Ne.symm hb)).trans (Heap.get?_push_of_some _ e))
end
def IsSorted (out ns : List Int) : Prop := out.Pairwise (· < ·) ∧ ∀ k, k ∈ out ↔ k ∈ ns
def SetI (w : World) (p : Addr) (ns : List Int) : HO := .ext fun h => ∃ ks, SG (Led w) h p ks ∧ KsOf ks ns
theorem ints_ents : ∀ {l : List (Int × Value)} {ks : List (Int × Tok)}, l = ks.map ent → IntsAre (l.map (·.2)) (ks.map (·.1))
  | _, [], rfl => .nil
  | _, p :: ks, rfl => .cons _ p.2 (ints_ents rfl)
theorem perm_ents : ∀ {l l' : List (Int × Value)}, l.Perm l' → (∀ e ∈ l', ∃ p, e = ent p) → ∃ ks : List (Int × Tok), l = ks.map ent := fun {l l'} h q => by
  have q' : ∀ e ∈ l, ∃ p, e = ent p := fun e he => q e (h.mem_iff.mp he)
  clear h q
  induction l with
  | nil => exact ⟨[], rfl⟩
  | cons e r ih =>
    obtain ⟨p, rfl⟩ := q' e (List.mem_cons_self ..)
    obtain ⟨ks, rfl⟩ := ih fun y hy => q' y (List.mem_cons_of_mem _ hy)
    exact ⟨p :: ks, rfl⟩
theorem ent_keys {ks ks' : List (Int × Tok)} (h : (ks.map ent).Perm (ks'.map ent)) : (ks.map (·.1)).Perm (ks'.map (·.1)) := by
  have e : ∀ l : List (Int × Tok), l.map (·.1) = (l.map ent).map fun e => match e.2 with | .int k _ => k | _ => 0 := fun l => by rw [List.map_map]; rfl
  rw [e, e]
  exact h.map _
section
variable {X : Cx}
theorem call_setT18 {K : PySem.W.Frag} (hK : X.K = K) (hc : X.calm = true) : CallR X (.type "set") (fun xs H Q => ∃ (l : Addr) (ns : List Int), xs = [.ref l] ∧ SqT K H l (ns.map V.int) ∧ ns.length ≤ 18 ∧ ∀ p, H p = none → Q (.ref p) (upd H p (SetI X.w p ns))) := by
  subst hK
  intro pins s σ H xs us Q I r h
  obtain ⟨l, ns, rfl, hL, hn, q⟩ := h
  obtain ⟨u, rfl, rx⟩ := vals1 r
  cases rx
  obtain ⟨its, rv, pl, hz⟩ := I.tuple hL
  refine call_set_tup (I.ok.hd hc) pl (ints_vals rv) hn fun h' tk ks x y kp => ?_
  have kp' : ∀ b o, s.heap.get? b = some o → h'.get? b = some o := fun b o e => kp b o (Heap.lt_size e) e
  have hf := I.hok.fresh (Nat.le_refl s.heap.objs.size)
  refine ⟨.ref s.heap.objs.size, _, I.laid (t' := tk) kp' (Nat.le_refl _) ?_, rfl, q _ hf⟩
  refine ⟨⟨ks, x, y⟩, ?_, fun h1 h2 ⟨ks, z, y⟩ k => ⟨ks, z.keep k, y⟩⟩
  obtain ⟨o, ep, es, t, e, _⟩ := x
  exact ⟨o, e⟩
theorem call_sortedI18 (hc : X.calm = true) : CallR X (.builtin "sorted") (fun xs H Q => ∃ (p : Addr) (ns : List Int), xs = [.ref p] ∧ H p = some (SetI X.w p ns) ∧ ns.length ≤ 18 ∧ ∀ q out, IsSorted out ns → H q = none → Q (.ref q) (upd H q (.lst (out.map V.int)))) := by
  intro pins s σ H xs us Q I r h
  obtain ⟨p, ns, rfl, hp, hn, q⟩ := h
  obtain ⟨u, rfl, rx⟩ := vals1 r
  cases rx
  obtain ⟨⟨ks, ⟨o, ep, es, t, ho, hex, hd, hpm, T⟩, hk⟩, _, _⟩ := I.hok p _ hp
  obtain ⟨ks', e'⟩ := perm_ents ((ordG_perm X.w p ep es).trans hpm) fun e he => by
    obtain ⟨y, _, rfl⟩ := List.mem_map.mp he
    exact ⟨y, rfl⟩
  have hkk : (ks'.map (·.1)).Perm (ks.map (·.1)) := ent_keys (by rw [← e']; exact (ordG_perm X.w p ep es).trans hpm)
  have hl12 := hk.len
  have hlen : (ks'.map (·.1)).length ≤ 18 := by rw [hkk.length_eq, List.length_map]; omega
  refine sorted_of (ns := ks'.map (·.1)) (by omega) (fun Q' hQ' => ?_) fun h1 h' tk out ns' k1 k2 pl hi' hp' ho' => ?_
  · exact collect_setG (A := X.A.in1) (I.ok.hd hc) T ho hex hd fun h' tk vs kp e => hQ' h' tk vs kp (by rw [e]; exact ints_ents e')
  · have I1 : Inv X pins σ H { s with heap := h1, toks := tk } := I.kept k1
    have hf := I1.hok.fresh (Nat.le_refl _)
    have hpp := hp'.trans hkk
    have hs : IsSorted ns' ns := by
      refine ⟨?_, fun k => hpp.mem_iff.trans (hk.mem k)⟩
      have nd : ns'.Nodup := hpp.nodup_iff.mpr hk.nd
      exact (List.Pairwise.and ho' nd).imp fun ⟨a, b⟩ => by omega
    have hl2 : ns'.length ≤ 18 := by rw [hp'.length_eq]; exact hlen
    obtain ⟨n, e⟩ := pl
    have I2 : Inv X pins σ (upd H h1.objs.size (.lst (ns'.map V.int))) { s with heap := h', toks := tk } :=
      I1.laid (t' := tk) k2 (Nat.le_refl _) (show ObjOk X.prog X.w _ _ _ (.lst _) from ⟨by rw [List.length_map, sizeLine_eq]; omega, out.toList, n, vals_ints hi', by simpa using e⟩)
    exact ⟨.ref h1.objs.size, _, I2, rfl, q _ _ hs hf⟩
end
end L2
set_option Elab.async false
set_option linter.all false
set_option maxRecDepth 100000
namespace L2
open PySem PySem.Spec PyProof.Rows
open PySem.AutoSeq1 (wpAny_loadPart')
end L2
set_option Elab.async false
set_option linter.all false
set_option maxRecDepth 100000
namespace L2
open PySem PySem.Spec PyProof.Rows
structure Zip3Apart (z TI TO i1 i2 i3 l1 l2 l3 : Addr) : Prop where
  TIz : TI ≠ z
  TOz : TO ≠ z
  i1z : i1 ≠ z
  i2z : i2 ≠ z
  i3z : i3 ≠ z
  TITO : TI ≠ TO
  TIi1 : TI ≠ i1
  TIi2 : TI ≠ i2
  TIi3 : TI ≠ i3
  TOi1 : TO ≠ i1
  TOi2 : TO ≠ i2
  TOi3 : TO ≠ i3
  i12 : i1 ≠ i2
  i13 : i1 ≠ i3
  i23 : i2 ≠ i3
  l1 : ∀ c ∈ [z, TO, i1, i2, i3], l1 ≠ c
  l2 : ∀ c ∈ [z, TO, i1, i2, i3], l2 ≠ c
  l3 : ∀ c ∈ [z, TO, i1, i2, i3], l3 ≠ c
section
variable {prog : Program} {w : World} {A : Around} {E : Value → Shared → Prop} {s : Shared} {z TI TO i1 i2 i3 l1 l2 l3 : Addr} {n n2 n3 : Nat} {P1 P2 P3 : Nat → Value → Prop} {st1 st2 st3 : Nat → Heap → Prop}
end
end L2
set_option Elab.async false
set_option linter.all false
set_option maxRecDepth 100000
namespace L2
open PySem PySem.Spec PyProof.Rows
section
variable (k1 k2 k3 : Sk) (h : Heap) (a b d : Addr)
end
section
variable {X : Cx} {es : List Expr} {x1 : Nat} {tpos : Pos}
end
end L2
set_option Elab.async false
set_option linter.all false
set_option maxRecDepth 100000
namespace L2
open PySem PySem.Spec PyProof.Rows
section
variable {K : PySem.W.Frag} {own : Nat} {fr : List Nat} {g : TG} {te : TE} {σ : St} {H : Hp} {Qf : Hp → List V → Prop}
end
end L2
set_option Elab.async false
set_option linter.all false
set_option maxRecDepth 100000
namespace L2
open PySem PySem.Spec PyProof.Rows
section
variable {X : Cx} {K : PySem.W.Frag}
end
end L2
set_option Elab.async false
set_option linter.all false
set_option maxRecDepth 100000
namespace L2
open PySem PySem.Spec PyProof.Rows
section
variable {X : Cx} {scope : Scope} {own frn : List Str} {fr : List Nat} {kx vx tg iter : Expr} {ifs : List Expr} {pos : Pos} {wi : TI} {g : TG} {tt : TT} {tk tv : TE}
end
end L2
set_option Elab.async false
set_option linter.all false
set_option maxRecDepth 100000
namespace L2
open PySem PySem.Spec PyProof.Rows
section
variable {X : Cx} {scope : Scope} {own frn : List Str} {fr : List Nat} {e elt tg d : Expr} {ifs : List Expr} {pos : Pos} {t td : TE} {g : TG} {tt : TT} {te : TE}
end
end L2
set_option Elab.async false
set_option linter.all false
set_option maxRecDepth 100000
namespace L2
open PySem PySem.Spec PyProof.Rows
section
variable {X : Cx}
end
end L2
set_option Elab.async false
set_option linter.all false
set_option maxRecDepth 100000
namespace L2
open PySem PySem.Spec PyProof.Rows
section
variable {X : Cx}
end
end L2
namespace L2
open PySem PySem.Spec PyProof.Rows
section
variable {X : Cx}
end
end L2
set_option Elab.async false
set_option linter.all false
set_option maxRecDepth 100000
namespace L2
open PySem PySem.Spec PyProof.Rows
section
variable {X : Cx}
end
end L2
set_option Elab.async false
set_option linter.all false
set_option maxRecDepth 100000
namespace L2
open PySem PySem.Spec PyProof.Rows
section
variable {P : Program} {w : World} {A : Around} {E : Value → Shared → Prop} {s : Shared} {it d : Addr} {i ep : Nat} {es : Array DictEntry} {ob : Obj}
end
section
variable {X : Cx} {pins : List (Addr × Obj)} {σ : St} {H : Hp} {s : Shared} {a : Addr}
end
theorem KT.length {H : Hp} {kvs : List (List Key × V)} {xs : List (List Key × Addr × Value)} (r : KT H kvs xs) : kvs.length = xs.length := by
  induction r with
  | nil => rfl
  | cons _ _ ih => rw [List.length_cons, List.length_cons, ih]
theorem KT.at {H : Hp} {kvs : List (List Key × V)} {xs : List (List Key × Addr × Value)} (r : KT H kvs xs) : ∀ {i : Nat} {p : List Key × V} {x : List Key × Addr × Value}, kvs[i]? = some p → xs[i]? = some x → p.1 = x.1 ∧ H x.2.1 = some (.tup (p.1.map kV)) := by
  induction r with
  | nil => intro i p x h; simp at h
  | cons h1 _ ih =>
    intro i p x hp hx
    cases i with
    | zero =>
      simp only [List.getElem?_cons_zero, Option.some.injEq] at hp hx
      subst hp hx
      exact ⟨h1.1, h1.2.1⟩
    | succ j =>
      simp only [List.getElem?_cons_succ] at hp hx
      exact ih hp hx
section
variable {X : Cx} {tg : Expr}
end
end L2
set_option Elab.async false
set_option linter.all false
set_option maxRecDepth 100000
namespace L2
open PySem PySem.Spec PyProof.Rows
section
variable {X : Cx} {pos : Pos} {ek ev : Expr} {tk tv : TE}
end
end L2
set_option Elab.async false
set_option linter.all false
set_option maxRecDepth 100000
namespace L2
open PySem PySem.Spec PyProof.Rows
abbrev KE := List Key × Addr × V
def Kp (ys : List KE) (H : Hp) : Prop := ∀ e ∈ ys, H e.2.1 = some (.tup (e.1.map kV))
def KY (ys : List KE) (its : List (List Key × Addr × Value)) : Prop := Paired (fun (p : KE) (q : List Key × Addr × Value) => p.1 = q.1 ∧ p.2.1 = q.2.1 ∧ RelV p.2.2 q.2.2) ys its
def DH (P : Program) (w : World) (h : Heap) (D : Addr) (its : List (List Key × Addr × Value)) : Prop := ∃ o es ep, h.get? D = some o ∧ o.ExactDict ∧ o.data = .dict es ep ∧ es.toList = its.map (entryOfKey (tupleKind (mixKind P w))) ∧ (its.map (·.1)).Nodup
theorem Kp.wr {ys : List KE} {H : Hp} {D : Addr} {o : HO} (h : Kp ys H) (n : H D = none) : Kp ys (upd H D o) := fun e he => by
  rw [upd_ne (fun z => by have q := h e he; rw [z, n] at q; cases q)]
  exact h e he
theorem KY.length {ys : List KE} {its : List (List Key × Addr × Value)} (r : KY ys its) : ys.length = its.length := by
  induction r with
  | nil => rfl
  | cons _ _ ih => rw [List.length_cons, List.length_cons, ih]
theorem KY.snoc {ys : List KE} {its : List (List Key × Addr × Value)} {k : List Key} {b : Addr} {y : V} {v : Value} (r : KY ys its) (h : RelV y v) : KY (ys ++ [(k, b, y)]) (its ++ [(k, b, v)]) := by
  induction r with
  | nil => exact .cons ⟨rfl, rfl, h⟩ .nil
  | cons h1 _ ih => exact .cons h1 ih
theorem KY.keys {ys : List KE} {its : List (List Key × Addr × Value)} (r : KY ys its) : ys.map (·.1) = its.map (·.1) := by
  induction r with
  | nil => rfl
  | cons h1 _ ih => rw [List.map_cons, List.map_cons, ih, h1.1]
theorem DH.at {P : Program} {w : World} {h h' : Heap} {D : Addr} {its : List (List Key × Addr × Value)} (d : DH P w h D its) (k : ∀ o, h.get? D = some o → h'.get? D = some o) : DH P w h' D its := let ⟨o, es, ep, h1, r⟩ := d; ⟨o, es, ep, k _ h1, r⟩
theorem DH.of {P : Program} {w : World} {h : Heap} {D : Addr} {its : List (List Key × Addr × Value)} (d : h.DictOfH (tupleKind (mixKind P w)) D its) : DH P w h D its := let ⟨o, es, ep, h1, h2, h3, h4, _, h5⟩ := d; ⟨o, es, ep, h1, h2, h3, h4, h5⟩
section
variable {X : Cx} {scope : Scope} {own frn : List Str} {fr : List Nat} {kx vx tg iter : Expr} {ifs : List Expr} {pos : Pos} {wi : TI} {g : TG} {tt : TT} {tk tv : TE}
end
section
variable {X : Cx} {scope : Scope} {own frn : List Str} {fr : List Nat} {e elt kx vx tg d : Expr} {ifs : List Expr} {pos : Pos} {t td : TE} {g : TG} {tt : TT} {te tk tv : TE}
end
end L2
set_option Elab.async false
set_option linter.all false
set_option maxRecDepth 100000
namespace L2
open PySem PySem.Spec PyProof.Rows
section
variable {P : Program} {w : World} {A : Around} {E : Value → Shared → Prop} {s : Shared} {it d v : Addr} {i ep : Nat} {es : Array DictEntry} {ob : Obj}
end
theorem KT.vals {H : Hp} {kvs : List (List Key × V)} {xs : List (List Key × Addr × Value)} (r : KT H kvs xs) : ∀ {i : Nat} {p : List Key × V} {x : List Key × Addr × Value}, kvs[i]? = some p → xs[i]? = some x → RelV p.2 x.2.2 := by
  induction r with
  | nil => intro i p x h; simp at h
  | cons h1 _ ih =>
    intro i p x hp hx
    cases i with
    | zero =>
      simp only [List.getElem?_cons_zero, Option.some.injEq] at hp hx
      subst hp hx
      exact h1.2.2
    | succ j =>
      simp only [List.getElem?_cons_succ] at hp hx
      exact ih hp hx
section
variable {X : Cx} {o : Expr} {to : TE} {p apos cpos pos : Pos}
end
end L2
set_option Elab.async false
set_option linter.all false
set_option maxRecDepth 100000
namespace L2
open PySem PySem.Spec PyProof.Rows
structure KsU (ks : List (Int × Tok)) (ns : List Int) : Prop where
  nd : (ks.map (·.1)).Nodup
  mem : ∀ k, k ∈ ks.map (·.1) ↔ k ∈ ns
theorem sub_len : ∀ {l m : List Int}, l.Nodup → (∀ x ∈ l, x ∈ m) → l.length ≤ m.length
  | [], m, _, _ => Nat.zero_le _
  | x :: l, m, h, k => by
    obtain ⟨h1, h2⟩ := List.nodup_cons.mp h
    have hx := k x (List.mem_cons_self ..)
    have hl := sub_len (l := l) (m := m.erase x) h2 fun y hy => (List.mem_erase_of_ne (a := y) (b := x) (fun e => h1 (by rw [← e]; exact hy))).mpr (k y (List.mem_cons_of_mem _ hy))
    have he := List.length_erase_of_mem hx
    have hp : 0 < m.length := List.length_pos_of_mem hx
    rw [List.length_cons]
    omega
theorem KsU.few {ks : List (Int × Tok)} {ns U : List Int} (h : KsU ks ns) (hU : U.length ≤ 11) (k : ∀ n ∈ ns, n ∈ U) : ks.length ≤ 11 := by
  have := sub_len h.nd fun x hx => k x ((h.mem x).mp hx)
  rw [List.length_map] at this
  omega
theorem KsU.old {ks : List (Int × Tok)} {ns : List Int} {k : Int} (h : KsU ks ns) (q : ∃ p ∈ ks, p.1 = k) : KsU ks (ns ++ [k]) := ⟨h.nd, fun x => by
  rw [h.mem, List.mem_append, List.mem_singleton]
  refine ⟨.inl, fun z => ?_⟩
  rcases z with z | z
  · exact z
  · obtain ⟨p, hp, e⟩ := q
    rw [z, ← e]
    exact (h.mem _).mp (List.mem_map.mpr ⟨p, hp, rfl⟩)⟩
theorem KsU.new {ks : List (Int × Tok)} {ns : List Int} {k : Int} {t : Tok} (h : KsU ks ns) (q : ∀ p ∈ ks, p.1 ≠ k) : KsU ((k, t) :: ks) (ns ++ [k]) := ⟨by
  rw [List.map_cons]
  refine List.nodup_cons.mpr ⟨fun m => ?_, h.nd⟩
  obtain ⟨p, hp, e⟩ := List.mem_map.mp m
  exact q p hp e, fun x => by
  rw [List.map_cons, List.mem_cons, h.mem, List.mem_append, List.mem_singleton]
  exact Or.comm⟩
section
variable {prog : Program} {w : World} {A : Around} {E : Value → Shared → Prop} {s : Shared} {L : Bool} {a : Addr}
end
section
variable {X : Cx} {scope : Scope} {own frn : List Str} {fr : List Nat} {elt tg iter : Expr} {ifs : List Expr} {pos : Pos} {wi : TI} {g : TG} {tt : TT} {te : TE}
end
section
variable {X : Cx} {scope : Scope} {own frn : List Str} {fr : List Nat} {elt tg d : Expr} {ifs : List Expr} {pos : Pos} {td : TE} {g : TG} {tt : TT} {te : TE}
end
end L2
set_option Elab.async false
set_option linter.all false
set_option maxRecDepth 100000
namespace L2
open PySem PySem.Spec PyProof.Rows
end L2
set_option Elab.async false
set_option linter.all false
set_option maxRecDepth 100000
namespace L2
open PySem PySem.Spec PyProof.Rows
end L2
set_option Elab.async false
set_option linter.all false
set_option maxRecDepth 100000
namespace L2
open PySem PySem.Spec PyProof.Rows
theorem strs_vals : ∀ {ps : List Str} {us : List Value}, Vals (ps.map V.str) us → ∃ l : List (Str × Tok), us = strValues l ∧ l.map (·.1) = ps
  | [], us, h => by cases h; exact ⟨[], rfl, rfl⟩
  | p :: ps, us, h => by
    cases h with
    | cons r t =>
      obtain ⟨k, rfl⟩ := r
      obtain ⟨l, rfl, rfl⟩ := strs_vals t
      exact ⟨(p, k) :: l, rfl, rfl⟩
theorem vals_strs : ∀ (l : List (Str × Tok)), Vals ((l.map (·.1)).map V.str) (strValues l)
  | [] => .nil
  | p :: l => .cons ⟨p.2, rfl⟩ (vals_strs l)
section
variable {X : Cx} {K : PySem.W.Frag}
theorem mt_join (hK : X.K = K) : MtR X "str.join" (fun x vs H Q => ∃ (sep : Str) (a : Addr) (ps : List Str), x = .str sep ∧ vs = [.ref a] ∧ SqL K H a (ps.map V.str) ∧ JoinOk sep ps = true ∧ Q (.str (sep.join ps)) H) := by
  subst hK
  intro pins s σ H x xs v us Q I rx r h
  obtain ⟨sep, a, ps, rfl, rfl, ha, hj, q⟩ := h
  obtain ⟨u, rfl, e⟩ := vals1 r
  cases e
  obtain ⟨tk, rfl⟩ := rx
  obtain ⟨its, rv, pl, hz⟩ := I.list ha
  obtain ⟨l, rfl, hl⟩ := strs_vals rv
  refine SC.join pl.isList hl hj fun t' k => ⟨.str _, H, I.tok _, ⟨_, rfl⟩, ?_⟩
  rw [show Txt.join sep ps = sep.join ps from StrLaws.glued_eq_join sep ps]
  exact q
theorem mt_split : MtR X "str.split" (fun x vs H Q => ∃ (t y : Str), x = .str t ∧ vs = [.str y] ∧ (y.length == 0) = false ∧ t.length + 2 ≤ sizeLine ∧ ∀ p, H p = none → Q (.ref p) (upd H p (.lst ((Txt.split t y).map V.str)))) := by
  intro pins s σ H x xs v us Q I rx r h
  obtain ⟨t, y, rfl, rfl, hy, ht, q⟩ := h
  obtain ⟨u, rfl, e⟩ := vals1 r
  obtain ⟨tk, rfl⟩ := rx
  obtain ⟨tk2, rfl⟩ := e
  have fin : ∀ (l : List (Str × Tok)) (k : Nat), l.map (·.1) = Txt.split t y → l.length ≤ sizeLine → EP X pins σ Q (.ref s.heap.objs.size) { s with heap := s.heap.push { cls := .type "list", data := .seq (strValues l).toArray }, toks := k } := fun l k e hl =>
    ⟨.ref s.heap.objs.size, _, I.laid (t' := k) (o := .lst ((Txt.split t y).map V.str)) (fun b ob q => Heap.get?_push_of_some _ q) (Nat.le_refl _) ⟨by rw [← e, List.length_map, List.length_map]; exact hl, strValues l, 0, by rw [← e]; exact vals_strs l, Heap.get?_push_size _ rfl⟩, rfl, q _ (I.hok.fresh (Nat.le_refl _))⟩
  have one : ∀ k, Txt.split t y = [t] → EP X pins σ Q (.ref s.heap.objs.size) { s with heap := s.heap.push { cls := .type "list", data := .seq #[.str t tk] }, toks := k } := fun k e => fin [(t, tk)] k e.symm (by rw [sizeLine_eq]; simp)
  by_cases h1 : (decide (t.length < y.length) || decide (Builtin.Str.strKind t < Builtin.Str.strKind y)) = true
  · have e : Txt.split t y = [t] := if_pos h1
    exact call_meets PySem.F.slot_str_split (typeIs_str _ _ _) PySem.F.entry_str_split (PySem.F.args_str_split_2 _ _) (meets_str_split_cannot_occur t y tk tk2 h1) (one s.toks e)
  · rw [Bool.not_eq_true] at h1
    by_cases h2 : (Builtin.Str.occurrences t y 0 t.length (t.length + 1)).isEmpty = true
    · have e : Txt.split t y = [t] := by unfold Txt.split; rw [h1, h2]; rfl
      exact call_meets PySem.F.slot_str_split (typeIs_str _ _ _) PySem.F.entry_str_split (PySem.F.args_str_split_2 _ _) (meets_str_split_not_found t y tk tk2 h1 hy h2) (one s.toks e)
    · rw [Bool.not_eq_true] at h2
      have e : Txt.split t y = Builtin.Str.partsBetween t (Builtin.Str.occurrences t y 0 t.length (t.length + 1)) y.length := by unfold Txt.split; rw [h1, h2]; rfl
      have hn : (Builtin.Str.partsBetween t (Builtin.Str.occurrences t y 0 t.length (t.length + 1)) y.length).length ≤ sizeLine := by
        rw [length_partsBetween]
        have := StrLaws.occ_length_le_len t y 0 t.length (t.length + 1)
        omega
      refine call_meets PySem.F.slot_str_split (typeIs_str _ _ _) PySem.F.entry_str_split (PySem.F.args_str_split_2 _ _) (meets_str_split_sep t y tk tk2 h1 hy h2 (by omega) hn) ?_
      rw [strsFrom_eq]
      exact fin (numbered s.toks _) _ ((numbered_texts _ _).trans e.symm) (by rw [← List.length_map (f := (·.1)), numbered_texts]; exact hn)
theorem call_intS : CallR X (.type "int") (fun xs H Q => ∃ (x : Str) (n : Int), xs = [.str x] ∧ intText? x = some n ∧ x.length ≤ 640 ∧ Q (.int n) H) := by
  intro pins s σ H xs us Q I r h
  obtain ⟨x, n, rfl, hn, hl, q⟩ := h
  obtain ⟨u, rfl, e⟩ := vals1 r
  obtain ⟨tk, rfl⟩ := e
  exact PySem.W.KIN.call_text hn hl ⟨.int n, H, I.tok _, ⟨_, rfl⟩, q⟩
theorem emp_app (y : Str) : Str.empty ++ y = y := by
  cases y with
  | mk c => exact congrArg Str.mk Array.empty_append
def Its (x : Str) : It where
  go := fun i _ => i < x.cps.size
  yld := fun i H v H' => H' = H ∧ ∃ c, x.cps[i]? = some c ∧ v = .str ⟨#[c]⟩
  stop := fun i _ => i = x.cps.size
def iStr (tl : TE) : TI := fun σ H R => tl σ H fun x H1 => ∃ z : Str, x = .str z ∧ z.cps.all (· < 128) = true ∧ R (Its z) H1
theorem turn_str {P : Program} {w : World} {tg : Expr} (it : Addr) (x : Str) (t : Tok) : Turn P w K tg (Its x) [it] it (fun i h => h.IsStrIter it "str_ascii_iterator" x t i) where
  mem := by simp
  obj := fun i h st b hb => by
    have e : b = it := by simpa using hb
    subst e
    obtain ⟨o, e, c, d⟩ := st
    exact ⟨o, e, fun v z => by rw [d] at z; cases z⟩
  keep := fun i h h' st k => let ⟨o, ho, r⟩ := st; ⟨o, k it (by simp) o ho, r⟩
  item := by
    intro X hP hw hK hc i pins s σ H E I hf st hg
    subst hP hw hK
    obtain ⟨f0, f1, f2, f3, f4, f5⟩ := hf it (by simp)
    refine (Walks.strAscii (prog := X.prog) (w := X.w) (I.ok.hd hc) it x t).item i s _ _ hg st fun v h' tk hv st' kp => ?_
    obtain ⟨c, u, hc, rfl⟩ := hv
    refine ⟨_, rfl, ?_⟩
    have I1 : Inv X pins σ H { s with heap := h', toks := tk } := I.turned (t' := tk) (fun b o hb e => kp b o (by simpa using hb) e) f0 f1 f3 f4 f5
    unfold letOwnedTupleGo
    cases tg <;> exact wpAny_pure ⟨.str ⟨#[c]⟩, H, I1, ⟨_, rfl⟩, ⟨rfl, c, hc, rfl⟩, st', fun b hb => (hf b hb).1⟩
  done := by
    intro X hP hw hK hc i pins s σ H E I hf st hg
    subst hP hw hK
    obtain ⟨f0, f1, f2, f3, f4, f5⟩ := hf it (by simp)
    have e : i = x.cps.size := hg
    subst e
    exact (Walks.strAscii (prog := X.prog) (w := X.w) (I.ok.hd hc) it x t).done s _ _ st fun h' tk kp => ⟨rfl, I.turned (t' := tk) (fun b o hb e => kp b o (by simpa using hb) e) f0 f1 f3 f4 f5⟩
  self := fun _ _ _ _ _ st h => wpAny_pyIter_striter_ascii st h
theorem pi_str {tg l : Expr} {tl : TE} (hl : PE X l tl) : PI X tg l (iStr tl) := by
  intro pins s σ H R I h
  refine thn (hl pins s σ H _ I h) fun v s1 hx9 => ?_
  obtain ⟨x, H1, I1, r1, z, rfl, ha, q⟩ := hx9
  obtain ⟨tk, rfl⟩ := r1
  refine wpAny_pyIter_ascii ha ?_
  refine ⟨s1.heap.objs.size, [s1.heap.objs.size], _, _, H1, rfl, I1.kept (t' := s1.toks) fun b o e => Heap.get?_push_of_some _ e, turn_str _ z tk, ⟨_, Heap.get?_push_size _ rfl, rfl, rfl⟩, fun b hb => ?_, q⟩
  have e : b = s1.heap.objs.size := by simpa using hb
  subst e
  exact I1.fpOk (Nat.le_refl _) (I1.hok.fresh (Nat.le_refl _))
end
end L2
set_option Elab.async false
set_option linter.all false
set_option maxRecDepth 100000
namespace L2
open PySem PySem.Spec PyProof.Rows
theorem walks_next {prog : Program} {w : World} {A : Around} {I : Addr} {fp wr : List Addr} {n : Nat} {P : Nat → Value → Prop} {St : Nat → Heap → Prop} (W : Walks prog w A I fp wr (n + 1) P St) : Walks prog w A I fp wr n (fun i => P (i + 1)) (fun i => St (i + 1)) :=
  ⟨W.sub, fun i => W.frame (i + 1), fun i s Q E hi st hQ => W.item (i + 1) s Q E (Nat.succ_lt_succ hi) st hQ, fun s Q E st hQ => W.done s Q E st hQ, fun i => W.self (i + 1)⟩
section
variable {X : Cx}
def gStar (K : PySem.W.Frag) (t : TGs) : TG := fun v σ H Q => ∃ a x xs, v = .ref a ∧ SqL K H a (x :: xs) ∧ ∀ p, H p = none → t [x, .ref p] σ (upd H p (.lst xs)) Q
theorem pg_star {a b : Expr} {p1 pos : Pos} {k : Nat} {t : TGs} (hc : X.calm = true) (h : PGs X [a, b] t) (he : (assignEach [a, .Starred b p1] X.env) = [(false, assign a X.env), (true, assign b X.env)] := by rfl) (he2 : (assignEach [a, b] X.env) = [(false, assign a X.env), (false, assign b X.env)] := by rfl) :
    PG X (.Tuple [a, .Starred b p1] k pos) (gStar X.K t) := by
  intro pins s σ H v u Q I r hw
  obtain ⟨ad, x, xs, rfl, hq, hw⟩ := hw
  cases r
  obtain ⟨its, rv, pl, hz⟩ := I.list hq
  cases rv with
  | @cons _ u0 _ us r0 rv =>
  have hL : s.heap.IsList ad (u0 :: us).toArray := pl.isList
  have hlt : ad < s.heap.objs.size := by obtain ⟨o, ho, _⟩ := hL; exact Heap.lt_size ho
  have hne : ad ≠ s.heap.objs.size := Nat.ne_of_lt hlt
  have W := Walks.list (prog := X.prog) (w := X.w) (A := X.A) (I.ok.hd hc) s.heap.objs.size ad hne (u0 :: us).toArray
  have W1 := Walks.list (prog := X.prog) (w := X.w) (A := X.A.in1) (by have := I.ok.hd hc; simpa using this) s.heap.objs.size ad hne (u0 :: us).toArray
  rw [show (u0 :: us).toArray.size = us.length + 1 by simp] at W W1
  have W2 := walks_next W1
  rw [show assign (.Tuple [a, .Starred b p1] k pos) X.env (.ref ad) = (do standAt pos; unpack (.ref ad) (assignEach [a, .Starred b p1] X.env)) from rfl, he]
  refine wpAny_bind (wpAny_standAt ?_)
  unfold unpack
  refine wpAny_bind (wpAny_holding ?_)
  show wpAny _ _ (unpackItems (.ref ad) 2 (some 1)) _ _ s
  unfold unpackItems
  refine wpAny_bind ?_
  unfold notIterableAtAll
  refine wpAny_bind (wpAny_specialOf hL.typeIs PySem.F.slot_list_iter.lookup ?_)
  refine wpAny_pure ?_
  simp only [Bool.false_eq_true, if_false]
  refine wpAny_bind (wpAny_holding (wpAny_pyIter_list hL ?_))
  refine wpAny_bind (wpAny_holding ?_)
  show wpAny _ _ (pyNext (.ref s.heap.objs.size) >>= _) _ _ _
  have hst : (s.heap.push { cls := .type "list_iterator", data := .fields #[.ref ad, .int 0 0] }).IsListIter s.heap.objs.size ad 0 ∧ (s.heap.push { cls := .type "list_iterator", data := .fields #[.ref ad, .int 0 0] }).IsList ad (u0 :: us).toArray := ⟨⟨_, Heap.get?_push_size _ rfl, rfl, rfl⟩, hL.push _⟩
  refine wpAny_bind (W.item 0 _ _ _ (Nat.succ_pos _) hst fun v h1 tk1 hv st1 kp1 => ?_)
  have ev : v = u0 := by
    have : (u0 :: us).toArray[0]? = some v := hv
    simpa using this.symm
  subst ev
  refine wpAny_bind (wpAny_holding ?_)
  show wpAny _ _ (pure []) _ _ _
  refine wpAny_pure (wpAny_pure ?_)
  show wpAny _ _ (if ([v] : List Value).length < 1 then _ else _) _ _ _
  rw [if_neg (by simp)]
  refine wpAny_bind (wpAny_holding ?_)
  refine wpAny_collect_iter (A := X.A) (T := "list_iterator") (.inr (.inr (.inl rfl))) W2.toS (fun _ _ st => let ⟨⟨o, ho, hcl, _⟩, _⟩ := st; ⟨o, ho, hcl⟩) st1 ?_ (by simp) ?_ ?_
  · intro b hb
    rcases List.mem_cons.mp hb with rfl | hb
    · obtain ⟨⟨o, ho, _⟩, _⟩ := st1
      exact Heap.lt_size ho
    · rw [List.mem_singleton.mp hb]
      obtain ⟨_, o, ho, _⟩ := st1
      exact Heap.lt_size ho
  · intro s' acc hm ha
    have ea : acc.toList = us := by
      refine List.ext_getElem? fun j => ?_
      have hs : acc.toList.length = us.length := by rw [Array.length_toList]; exact ha.1
      by_cases hj : j < us.length
      · have hja : j < acc.size := by rw [ha.1]; exact hj
        have h2 := ha.2 j acc[j] (Array.getElem?_eq_getElem hja)
        rw [Array.getElem?_toList, Array.getElem?_eq_getElem hja]
        simpa using h2.symm
      · rw [List.getElem?_eq_none (by omega), List.getElem?_eq_none (by omega)]
    rw [ea, if_neg (by omega)]
    have hzu : us.length ≤ sizeLine := by have := rv.length; rw [List.length_cons] at hz; omega
    have nb : ∀ b o, s.heap.get? b = some o → b ∉ [s.heap.objs.size] := fun b o e z => Nat.lt_irrefl _ (by have := Heap.lt_size e; rw [List.mem_singleton.mp z] at this; exact this)
    have kp : ∀ b o, s.heap.get? b = some o → s'.heap.get? b = some o := fun b o e => hm.heap b o (nb b o e) (kp1 b o (nb b o e) (Heap.get?_push_of_some _ e))
    have es : s' = { s with heap := s'.heap, toks := s'.toks } := by
      have g1 := hm.gens
      have g2 := hm.drawn
      have g3 := hm.os
      cases s'
      simp only at g1 g2 g3
      subst g1 g2 g3
      rfl
    have I1 : Inv X pins σ H s' := by rw [es]; exact I.kept (t' := s'.toks) kp
    have et : us.take (us.length - (2 - 1 - 1)) = us := List.take_of_length_le (by omega)
    have ed : us.drop (us.length - (2 - 1 - 1)) = [] := List.drop_eq_nil_of_le (by omega)
    rw [et, ed]
    refine wpAny_bind (wpAny_newObj_type ?_ (by show us.toArray.size ≤ sizeLine; rw [List.size_toArray]; exact hzu))
    refine wpAny_pure ?_
    have I2 : Inv X pins σ (upd H s'.heap.objs.size (.lst xs)) { s' with heap := s'.heap.push { cls := .type "list", data := .seq us.toArray } } := I1.laid (t' := s'.toks) (fun b ob q => Heap.get?_push_of_some _ q) (Nat.le_refl _) ⟨by rw [List.length_cons] at hz; omega, us, 0, rv, Heap.get?_push_size _ rfl⟩
    have := h pins _ σ _ [x, .ref s'.heap.objs.size] [v, .ref s'.heap.objs.size] Q I2 (.cons r0 (.cons rfl .nil)) (hw _ (I1.hok.fresh (Nat.le_refl _)))
    rw [he2] at this
    exact this
  · have := rv.length
    rw [List.length_cons] at hz
    omega
end
end L2
set_option Elab.async false
set_option linter.all false
set_option maxRecDepth 100000
namespace L2
open PySem PySem.Spec PyProof.Rows
section
variable {X : Cx} {K : PySem.W.Frag}
def rSlS : V → Option Int → Option Int → Hp → VK → Prop := fun x lo hi H Q => ∃ t : Str, x = .str t ∧ t.length ≤ sizeLine ∧ Q (.str (Txt.slice t lo hi)) H
theorem sl_str : SlR X rSlS := by
  intro pins s σ H x v vl vu lo hi sl Q I rx hs pl pu h
  obtain ⟨t, rfl, hl, q⟩ := h
  obtain ⟨tk, rfl⟩ := rx
  refine ⟨"str", _, PySem.F.slot_str_getitem.lookup, typeIs_str _ _ _, ?_⟩
  have fin : ∀ lo hi, Q (.str (Txt.slice t lo hi)) H → (Txt.slice t lo hi).length ≤ sizeLine ∧ ∀ t' k, EP X pins σ Q (.str (Txt.slice t lo hi) t') { s with toks := k } := fun lo hi q =>
    ⟨Nat.le_trans (Txt.slice_le t _ _) hl, fun t' k => ⟨.str _, H, I.tok _, ⟨_, rfl⟩, q⟩⟩
  cases pl with
  | none => cases pu with
    | none => exact wpAny_getItem_str_slice (l := none) (u := none) (st := none) hs rfl (post_val_or_str (fin none none q))
    | int j uj => exact wpAny_getItem_str_slice (l := none) (u := some (j, uj)) (st := none) hs rfl (post_val_or_str (fin none (some j) q))
  | int i ui => cases pu with
    | none => exact wpAny_getItem_str_slice (l := some (i, ui)) (u := none) (st := none) hs rfl (post_val_or_str (fin (some i) none q))
    | int j uj => exact wpAny_getItem_str_slice (l := some (i, ui)) (u := some (j, uj)) (st := none) hs rfl (post_val_or_str (fin (some i) (some j) q))
theorem idx_over {n : Nat} {j : Int} (h : (n : Int) ≤ j) : Builtin.Str.strSliceIndices none (some j) 1 n = Builtin.Str.strSliceIndices none (some (n : Int)) 1 n := by
  have h0 : ¬ j < 0 := by omega
  have h1 : ¬ ((n : Int) < 0) := by omega
  have h2 : (1 : Int) > 0 := by decide
  simp only [Builtin.Str.strSliceIndices, h0, h1, h2, if_false, if_true, Int.min_eq_right h, Int.min_self]
theorem slice_to (x : Str) {j : Int} (h : 0 ≤ j) : (Txt.slice x none (some j)).cps.toList = x.cps.toList.take j.toNat := by
  by_cases hj : j ≤ x.cps.toList.length
  · rw [beq_iff_eq.mp (slice_closes_to ⟨h, hj⟩)]
    simp
  · have hl : x.length = x.cps.toList.length := by simp [Str.length]
    have e2 : Txt.slice x none (some j) = Txt.slice x none (some (x.length : Int)) := by
      unfold Txt.slice
      rw [idx_over (by omega)]
    rw [e2, beq_iff_eq.mp (slice_closes_to ⟨by omega, by omega⟩)]
    rw [List.take_of_length_le (i := j.toNat) (by omega)]
    show List.take _ (List.drop _ _) = _
    rw [List.take_of_length_le (by simp [Str.length])]
    rfl
theorem slice_from (x : Str) {i : Int} (h : 0 ≤ i) : (Txt.slice x (some i) none).cps.toList = x.cps.toList.drop i.toNat := by
  have hl : x.length = x.cps.toList.length := by simp [Str.length]
  by_cases hj : i ≤ x.length
  · rw [slice_from_eq h hj rfl]
    show List.take _ (List.drop _ _) = _
    rw [List.take_of_length_le]
    rw [List.length_drop]
    omega
  · rw [slice_beyond (by omega), List.drop_of_length_le (by omega)]
    rfl
theorem for_str {x : Str} {g : TG} {tb : TS} {D : Ends} {σ : St} {H : Hp} (Pv : Nat → St → Hp → Prop) (h0 : Pv 0 σ H)
    (hs : ∀ i c σ H, x.cps[i]? = some c → Pv i σ H → g (.str ⟨#[c]⟩) σ H fun σ2 H2 => tb { D with nx := Pv (i + 1), ct := Pv (i + 1), bk := D.nx } σ2 H2) (hd : ∀ σ H, Pv x.cps.size σ H → D.nx σ H) :
    ∃ W : Nat → Nat → St → Hp → Prop, (∃ m, W 0 m σ H) ∧ ∀ i m σ H, W i m σ H →
      ((Its x).stop i H ∧ D.nx σ H) ∨ ((Its x).go i H ∧ ∃ N : St → Hp → Prop, (∀ σ' H', N σ' H' → ∃ m', m' < m ∧ W (i + 1) m' σ' H') ∧ ∀ y H', (Its x).yld i H y H' → g y σ H' fun σ2 H2 => tb { D with nx := N, ct := N, bk := D.nx } σ2 H2) := by
  refine ⟨fun i m σ H => m = x.cps.size - i ∧ i ≤ x.cps.size ∧ Pv i σ H, ⟨x.cps.size, by simp, Nat.zero_le _, h0⟩, ?_⟩
  rintro i m σ H ⟨rfl, hi, p⟩
  by_cases hlt : i < x.cps.size
  · refine .inr ⟨hlt, Pv (i + 1), fun σ' H' p' => ⟨x.cps.size - (i + 1), by omega, rfl, hlt, p'⟩, fun y H' hy => ?_⟩
    obtain ⟨e, c, hc, rfl⟩ := hy
    subst e
    exact hs i c σ _ hc p
  · have e : i = x.cps.size := by omega
    subst e
    exact .inl ⟨rfl, hd σ H p⟩
theorem op_repS : OpR X (binaryOp .Mult) (fun x y H Q => ∃ (t : Str) (n : Int), x = .str t ∧ y = .int n ∧ MulOk t n ∧ Q (.str (Txt.mul t n)) H) := by
  intro pins s σ H x y v u Q I rx ry h
  obtain ⟨t, n, rfl, rfl, hm, q⟩ := h
  obtain ⟨tk, rfl⟩ := rx
  obtain ⟨tk2, rfl⟩ := ry
  exact SB.mul hm fun t' k => ⟨.str _, H, I.tok _, ⟨_, rfl⟩, q⟩
theorem mt_upper : MtR X "str.upper" (fun x vs H Q => ∃ t : Str, x = .str t ∧ vs = [] ∧ (Txt.upper t).length ≤ sizeLine ∧ Q (.str (Txt.upper t)) H) := by
  intro pins s σ H x xs v us Q I rx r h
  obtain ⟨t, rfl, rfl, hl, q⟩ := h
  cases r
  obtain ⟨tk, rfl⟩ := rx
  exact SC.upper (decide_eq_false (by omega)) ⟨.str _, H, I.tok _, ⟨_, rfl⟩, q⟩
end
end L2
set_option Elab.async false
set_option linter.all false
set_option maxRecDepth 100000
namespace L2
open PySem PySem.Spec PyProof.Rows
def PEt (X : Cx) (e : Expr) (t : TE) : Prop :=
  ∀ (pins : List (Addr × Obj)) (s : Shared) (σ : St) (H : Hp) (Q : VK), Inv X pins σ H s → t σ H Q → wpAny (model X.prog X.w) X.A (eval e X.env) (fun v s' => s'.toks ≠ 0 ∧ EP X pins σ Q v s') X.xe s
def PE0 (X : Cx) (e : Expr) (t : TE) : Prop :=
  ∀ (pins : List (Addr × Obj)) (s : Shared) (σ : St) (H : Hp) (Q : VK), s.toks ≠ 0 → Inv X pins σ H s → t σ H Q → wpAny (model X.prog X.w) X.A (eval e X.env) (EP X pins σ Q) X.xe s
section
variable {X : Cx}
theorem pa_cons2 {e f : Expr} {es : List Expr} {te tf : TE} {t : TA} (ha : PEt X e te) (hf : PE0 X f tf) (hr : PA X es t) (hs : starEach (e :: f :: es) X.env = (false, eval e X.env) :: (false, eval f X.env) :: starEach es X.env := by rfl) : PA X (e :: f :: es) (tCons te (tCons tf t)) := by
  intro pos pins s σ H Q I h
  rw [hs]
  show wpAny _ _ (spliced ((false, eval e X.env) :: (false, eval f X.env) :: backTo pos (starEach es X.env))) _ _ s
  refine Calls.spliced_cons (thn (ha pins s σ H _ I h) fun u s1 hx9 => ?_)
  obtain ⟨n1, x, H1, I1, r1, q1⟩ := hx9
  refine Calls.spliced_cons (thn (hf pins s1 σ H1 _ n1 I1 q1) fun u2 s2 hx9 => ?_)
  obtain ⟨x2, H2, I2, r2, q2⟩ := hx9
  refine thn (hr pos pins s2 σ H2 _ I2 q2) fun us s3 hx9 => ?_
  obtain ⟨xs, H3, I3, r3, q3⟩ := hx9
  exact ⟨x :: x2 :: xs, H3, I3, .cons r1 (.cons r2 r3), q3⟩
def rAddS : R2 := fun x y H Q => ∃ i j : Str, x = .str i ∧ y = .str j ∧ i.length + j.length ≤ sizeLine ∧ Q (.str (i ++ j)) H
theorem pet_add {a : Expr} {ta : TE} {c : Str} {j : Nat} {p pos : Pos} (ha : PE X a ta) : PEt X (.BinOp a .Add (.Constant (.str c) j p) pos) (tOp rAddS ta (tC (.str c))) := by
  intro pins s σ H Q I h
  refine wpAny_BinOp (thn (ha pins s σ H _ I h) fun v s1 hx9 => ?_)
  obtain ⟨x, H1, I1, r1, q1⟩ := hx9
  obtain ⟨i, c', rfl, e, hl, q⟩ := q1
  cases e
  obtain ⟨tk, rfl⟩ := r1
  refine Calls.Constant_str ?_
  refine P.add_str ?_
  split
  · rename_i h0
    refine ⟨Nat.succ_ne_zero _, .str (i ++ c), H1, I1.tok _, ⟨s1.toks, ?_⟩, q⟩
    have : i = Str.empty := by
      cases i with
      | mk z => exact congrArg Str.mk (Array.size_eq_zero_iff.mp (by simpa [Str.length] using h0))
    rw [this, emp_app]
  · split
    · rename_i h0
      refine ⟨Nat.succ_ne_zero _, .str (i ++ c), H1, I1.tok _, ⟨tk, ?_⟩, q⟩
      cases c with
      | mk z => cases i with
        | mk y =>
          obtain rfl := Array.size_eq_zero_iff.mp (show z.size = 0 by simpa [Str.length] using h0)
          show Value.str ⟨y⟩ tk = Value.str ⟨y ++ #[]⟩ tk
          rw [Array.append_empty]
    · refine ⟨?_, Nat.succ_ne_zero _, .str (i ++ c), H1, I1.tok _, ⟨_, rfl⟩, q⟩
      rw [show (i ++ c).length = i.length + c.length by show (i.cps ++ c.cps).size = _; rw [Array.size_append]; rfl]
      exact hl
def tRepl (i : Nat) (y z : Str) : TE := fun σ H Q => ∃ t : Str, σ[i]? = some (some (.str t)) ∧ t.length + (t.length + 1) * z.length ≤ 16777216 ∧ Q (.str (Txt.replace t y z)) H
theorem pe0_replace {i j1 j2 : Nat} {x y z : Str} {p1 p2 p3 apos cpos : Pos} (hN : X.N[i]? = some x) (hv : Vis X.env.scope x) (hyz : (y == z) = false) (hd : (x == ("__debug__" : Str)) = false := by decide) (hcd : (x == ("__classdict__" : Str)) = false := by decide)
    (hbase : attributeBase (.Name x p1) "replace" X.env (eval (.Name x p1) X.env) = eval (.Name x p1) X.env := by rfl)
    (hline : (apos.endLine == cpos.line) = true := by rfl)
    (hs : backTo cpos (starEach [.Constant (.str y) j1 p2, .Constant (.str z) j2 p3] X.env) = [(false, eval (.Constant (.str y) j1 p2) X.env), (false, eval (.Constant (.str z) j2 p3) X.env)] := by rfl) :
    PE0 X (.Call (.Attribute (.Name x p1) "replace" apos) [.Constant (.str y) j1 p2, .Constant (.str z) j2 p3] [] cpos) (tRepl i y z) := by
  intro pins s σ H Q hn I h
  obtain ⟨t, e, hb, q⟩ := h
  obtain ⟨m, hns, hl⟩ := I.loc
  obtain ⟨u, r, l⟩ := hl i x _ hN e hv
  obtain ⟨tk, rfl⟩ := r
  refine wpAny_Call_method2_late hbase hline hs ?_
  have fin : MethodOn X.prog X.w X.A "replace" cpos (.str t tk) [(false, eval (.Constant (.str y) j1 p2) X.env), (false, eval (.Constant (.str z) j2 p3) X.env)] (EP X pins σ Q) X.xe s := by
    refine ⟨"str", "str.replace", PySem.F.plainAttrs_str, PySem.F.slot_str_replace, PySem.F.type_str_replace, typeIs_str _ _ _, (fun _ h => nomatch h), ?_⟩
    refine Calls.callWith_builtin rfl (Calls.evalArgs_plain ?_)
    refine Calls.spliced_cons (Calls.Constant_str ?_)
    refine Calls.spliced_cons (Calls.Constant_str ?_)
    refine Calls.spliced_nil ?_
    exact SC.replace hn (Nat.succ_ne_zero _) (Nat.ne_of_lt (Nat.lt_succ_self _)) hyz hb fun t' k => ⟨.str _, H, I.tok _, ⟨_, rfl⟩, q⟩
  rcases l with ⟨hk, hm⟩ | ⟨hk, c, hc, hcell⟩
  · exact wpAny_Name (wpAny_loadName_local I.ok.kind hk hns hm fin) hd
  · rcases hk with hk | hk
    · exact wpAny_Name (wpAny_loadName_cell I.ok.kind hk hc hcell fin) hd
    · exact wpAny_Name (wpAny_loadName_free I.ok.kind hk hc hcell fin hcd) hd
end
end L2
set_option Elab.async false
set_option linter.all false
set_option maxRecDepth 100000
namespace L2
open PySem PySem.Spec PyProof.Rows
structure Fn (K : PySem.W.Frag) (mg : Str → Option Value) (x : Str) (st : Stmt) (ps : List Str) (f : Addr) (fd : FuncData) : Prop where
  fn : Fun K x x st f fd
  mgx : mg x = some (.ref f)
  kp : PySem.W.keepIn K (.ref f) = true
  bd : Binds K fd ps []
theorem pe_fn {X : Cx} {x : Str} {st : Stmt} {ps : List Str} {f : Addr} {fd : FuncData} {k : Nat} {sp : Sp} {p pos : Pos} {e : Expr} {es : List Expr} {t : TA} (G : Fn X.K X.mg x st ps f fd) (ok : FnOk X.prog X.w X.K X.mg X.base CX0 k f fd ps sp) (hr : Room k X.A) (hg : Gl X x) (ha : PA X (e :: es) t)
    (hdb : (x == ("__debug__" : Str)) = false := by decide) (he : starEach (e :: es) X.env = (false, eval e X.env) :: starEach es X.env := by rfl) (hpl : (backTo pos (starEach es X.env)).any (·.1) = false := by rfl) :
    PE X (.Call (.Name x p) (e :: es) [] pos) (tCall sp [] E0 t) := pe_call ok hr hg G.mgx G.kp G.bd .nil pass0 ha hdb he hpl
structure Bl (mg : Str → Option Value) : Prop where
  isinstance : mg "isinstance" = none
  int : mg "int" = none
  bool : mg "bool" = none
  tuple : mg "tuple" = none
  list : mg "list" = none
  len : mg "len" = none
  all : mg "all" = none
  zip : mg "zip" = none
  range : mg "range" = none
  sorted : mg "sorted" = none
  set : mg "set" = none
  sum : mg "sum" = none
  repr : mg "repr" = none
  str : mg "str" = none
  ve : mg "ValueError" = none
  any : mg "any" = none
  hands : ∃ t, mg "MOST_HANDS" = some (.int 6 t)
  works : ∃ t, mg "MOST_WORKS" = some (.int 12 t)
  fig : ∃ t, mg "FIGURES" = some (.str "0123456789" t)
  mfig : ∃ t, mg "MOST_FIGURES" = some (.int 6 t)
theorem b_isi : bootBuiltins "isinstance" = some (.builtin "isinstance") := by decide +kernel
theorem b_int : bootBuiltins "int" = some (.type "int") := by decide +kernel
theorem b_bool : bootBuiltins "bool" = some (.type "bool") := by decide +kernel
theorem b_tuple : bootBuiltins "tuple" = some (.type "tuple") := by decide +kernel
theorem b_list : bootBuiltins "list" = some (.type "list") := by decide +kernel
theorem b_len : bootBuiltins "len" = some (.builtin "len") := by decide +kernel
theorem b_all : bootBuiltins "all" = some (.builtin "all") := by decide +kernel
theorem b_sorted : bootBuiltins "sorted" = some (.builtin "sorted") := by decide +kernel
theorem b_set : bootBuiltins "set" = some (.type "set") := by decide +kernel
end L2

namespace Ab
open PySem L2
def top (i : Nat) : Stmt := PySem.Challenge.pw_ablehands_k51_texts_that_write_no_book.main.body.getD i (.Pass ⟨0, 0, 0, 0⟩)
abbrev sWhole : Stmt := top 16
abbrev sHands : Stmt := top 17
abbrev sWorkP : Stmt := top 18
abbrev sBookP : Stmt := top 19
abbrev sNeedB : Stmt := top 20
abbrev sNumber : Stmt := top 24
abbrev sShowB : Stmt := top 25
abbrev sReadB : Stmt := top 26
abbrev sWhirl : Stmt := top 28
abbrev sScoop : Stmt := top 29
abbrev sAble : Stmt := top 30
abbrev sEBook : Stmt := top 31
abbrev sText : Stmt := top 32
abbrev sKind : Stmt := top 33
abbrev sNum : Stmt := top 34
abbrev sDue : Stmt := top 35
abbrev sTold : Stmt := top 36
abbrev sShown : Stmt := top 37
abbrev sNoBooks : Stmt := top 38
abbrev sEach : Stmt := top 39
abbrev sBentE : Stmt := top 40
abbrev sLaw : Stmt := top 41
def isWhole : PyData → Bool
  | .int _ => true
  | _ => false
def areHands : PyData → Bool
  | .int i => decide (1 ≤ i) && decide (i ≤ 6)
  | _ => false
def risesP (hands : Int) : Int → List PyData → Bool
  | _, [] => true
  | last, .int i :: r => decide (last < i) && decide (i < hands) && risesP hands i r
  | _, _ :: _ => false
def isWork (hands : Int) : PyData → Bool
  | .tuple ds => !ds.isEmpty && risesP hands (-1) ds
  | _ => false
def bookOf : PyData → PyData → Bool
  | .int h, .tuple ws => decide (1 ≤ h) && decide (h ≤ 6) && decide (ws.length ≤ 12) && ws.all (isWork h)
  | _, _ => false
def isBook : PyData → Bool
  | .tuple [dh, dw] => bookOf dh dw
  | _ => false
section
variable {P : Program} {w : World} {K : PySem.W.Frag} {mg : Str → Option Value} {base : Heap}
def spWhole (K : PySem.W.Frag) : Sp := fun vs H Q _ => ∃ x d, vs = [x] ∧ Den K H d x ∧ Q (.bl (isWhole d)) H
theorem scWhole : FnScope ["thing"] ["thing"] (defScope sWhole) := ⟨rfl, rfl, rfl, by decide +kernel, rfl, by decide +kernel, by decide +kernel⟩
theorem ok_whole {f : Addr} {fd : FuncData} (G : Fn K mg "is_whole" sWhole ["thing"] f fd) (B : Bl mg) : FnOk P w K mg base CX0 1 f fd ["thing"] (spWhole K) := by
  refine G.fn.ok scWhole (fun vs H Q E h => ?_) (fun cdv A outer s H vs Q E hr h => ?_)
  · obtain ⟨x, d, rfl, _⟩ := h
    rfl
  · obtain ⟨x, d, rfl, hd, k⟩ := h
    refine ⟨_, pss_one (ps_ret (pe_and (pe_callB call_isi_int rfl B.isinstance b_isi (pa_cons (pv 0) (pa_cons (pe_bltn (v := .ty "int") rfl B.int b_int rfl) pa_nil)))
      (pe_one (pe_not (pe_callB call_isi_bool rfl B.isinstance b_isi (pa_cons (pv 0) (pa_cons (pe_bltn (v := .ty "bool") rfl B.bool b_bool rfl) pa_nil))))))), ?_⟩
    refine ⟨_, rfl, x, kdOf d, rfl, hd.kd, _, rfl, ?_⟩
    refine ite2 (fun c => ?_) (fun c => ?_)
    · refine ⟨_, rfl, x, kdOf d, rfl, hd.kd, _, rfl, ?_⟩
      have e : (!decide (kdOf d = Kd.bl)) = isWhole d := by
        cases d <;> first | rfl | (exfalso; simp [kdOf] at c)
      rw [e]
      exact k
    · have e : false = isWhole d := by
        cases d <;> first | rfl | (exfalso; simp [kdOf] at c)
      rw [e]
      exact k
def spHands (K : PySem.W.Frag) : Sp := fun vs H Q _ => ∃ x d, vs = [x] ∧ Den K H d x ∧ Q (.bl (areHands d)) H
theorem scHands : FnScope ["thing"] ["thing"] (defScope sHands) := ⟨rfl, rfl, rfl, by decide +kernel, rfl, by decide +kernel, by decide +kernel⟩
theorem ok_hands {f fW : Addr} {fd fdW : FuncData} (G : Fn K mg "are_hands" sHands ["thing"] f fd) (B : Bl mg) (W : Fn K mg "is_whole" sWhole ["thing"] fW fdW) : FnOk P w K mg base CX0 2 f fd ["thing"] (spHands K) := by
  have GW : FnOk P w K mg base CX0 1 fW fdW ["thing"] (spWhole K) := ok_whole W B
  obtain ⟨t6, h6⟩ := B.hands
  refine G.fn.ok scHands (fun vs H Q E h => ?_) (fun cdv A outer s H vs Q E hr h => ?_)
  · obtain ⟨x, d, rfl, _⟩ := h
    rfl
  · obtain ⟨x, d, rfl, hd, k⟩ := h
    refine ⟨_, pss_one (ps_ret (pe_and (pe_fn W GW hr rfl (pa_cons (pv 0) pa_nil))
      (pe_one (pe_chain op_le op_le pe_int (pv 0) (pe_glob (v := .int 6) rfl h6 ⟨t6, rfl⟩))))), ?_⟩
    refine ⟨_, rfl, x, d, rfl, hd, _, rfl, ?_⟩
    refine ite2 (fun c => ?_) (fun c => ?_)
    · obtain ⟨i, rfl⟩ : ∃ i, d = .int i := by cases d <;> first | exact ⟨_, rfl⟩ | (exfalso; simp [isWhole] at c)
      obtain rfl := den_int.mp hd
      refine ⟨_, rfl, _, _, rfl, rfl, _, rfl, ?_⟩
      refine ite2 (fun c1 => ?_) (fun c1 => ?_)
      · refine ⟨_, _, rfl, rfl, ?_⟩
        have e : decide (i ≤ 6) = areHands (.int i) := by
          show _ = (decide (1 ≤ i) && decide (i ≤ 6))
          rw [c1, Bool.true_and]
        show Q (.bl (decide (i ≤ 6))) H
        rw [e]; exact k
      · have e : false = areHands (.int i) := by
          show _ = (decide (1 ≤ i) && decide (i ≤ 6))
          have c2 : decide (1 ≤ i) = false := by simpa using c1
          rw [c2, Bool.false_and]
        rw [e]; exact k
    · have e : false = areHands d := by cases d <;> first | rfl | (exfalso; simp [isWhole] at c)
      rw [e]; exact k
theorem risesP_cons_int (h l i : Int) (r : List PyData) : risesP h l (.int i :: r) = (decide (l < i) && decide (i < h) && risesP h i r) := by rw [risesP]
theorem risesP_cons_no (h l : Int) (d : PyData) (r : List PyData) (n : isWhole d = false) : risesP h l (d :: r) = false := by
  cases d <;> first | rfl | (simp [isWhole] at n)
def spWorkP (K : PySem.W.Frag) : Sp := fun vs H Q _ => ∃ n x d, vs = [.int n, x] ∧ Den K H d x ∧ Q (.bl (isWork n d)) H
theorem scWorkP : FnScope ["hands", "thing", "last", "hand"] ["hands", "thing"] (defScope sWorkP) := ⟨rfl, rfl, rfl, by decide +kernel, rfl, by decide +kernel, by decide +kernel⟩
theorem ok_workP {f fW : Addr} {fd fdW : FuncData} (G : Fn K mg "is_work" sWorkP ["hands", "thing"] f fd) (B : Bl mg) (W : Fn K mg "is_whole" sWhole ["thing"] fW fdW) : FnOk P w K mg base CX0 2 f fd ["hands", "thing"] (spWorkP K) := by
  have GW : FnOk P w K mg base CX0 1 fW fdW ["thing"] (spWhole K) := ok_whole W B
  refine G.fn.ok scWorkP (fun vs H Q E h => ?_) (fun cdv A outer s H vs Q E hr h => ?_)
  · obtain ⟨n, x, d, rfl, _⟩ := h
    rfl
  · obtain ⟨n, x, d, rfl, hd, k⟩ := h
    refine ⟨_, pss_cons (ps_if (PW.pt (pw_or (pt_not (pt_val (pe_callB call_isi_tuple rfl B.isinstance b_isi (pa_cons (pv 1) (pa_cons (pe_bltn (v := .ty "tuple") rfl B.tuple b_tuple rfl) pa_nil)))))
        (pw_or1 (pt_cmpR op_eq (pe_callB call_len_seq rfl B.len b_len (pa_cons (pv 1) pa_nil)) pe_int (nomark _))))) (pss_one (ps_ret pe_bl)) pss_nil)
      (pss_cons (ps_set (i := 2) scWorkP.nd rfl (Or.inl rfl) (pe_un un_neg pe_int))
      (pss_cons (ps_for PassesOwn.never rfl (pi_tup (pv 1)) (pg_name (i := 3) scWorkP.nd rfl (Or.inl rfl))
        (pss_cons (ps_if (PW.pt (pw_or (pt_not (pt_val (pe_fn W GW hr rfl (pa_cons (pv 3) pa_nil)))) (pw_or (pt_cmpR op_le (pv 3) (pv 2) (nomark _)) (pw_or1 (pt_cmpR op_ge (pv 3) (pv 0) (nomark _)))))) (pss_one (ps_ret pe_bl)) pss_nil)
        (pss_one (ps_set (i := 2) scWorkP.nd rfl (Or.inl rfl) (pv 3)))))
      (pss_one (ps_ret pe_bl)))), ?_⟩
    refine ⟨_, rfl, x, kdOf d, rfl, hd.kd, _, rfl, ?_⟩
    refine ite2 (fun c => ?_) (fun c => ?_)
    · -- not a tuple
      refine iteT ?_
      have e : false = isWork n d := by
        cases d <;> first | rfl | (exfalso; simp [kdOf] at c)
      rw [e]; exact k
    · obtain ⟨ds, rfl⟩ : ∃ ds, d = .tuple ds := by cases d <;> first | exact ⟨_, rfl⟩ | (exfalso; simp [kdOf] at c)
      obtain ⟨a, xs, rfl, ha, hds⟩ := den_tuple.mp hd
      have hl := denAll_length hds
      refine ⟨_, rfl, a, xs, rfl, .inr ha, rfl, _, rfl, ?_⟩
      refine ite2 (fun c2 => ?_) (fun c2 => ?_)
      · have e : false = isWork n (.tuple ds) := by
          have e1 : ds = [] := by
            have : (xs.length : Int) = 0 := by simpa using c2
            exact List.length_eq_zero_iff.mp (by omega)
          rw [e1]; rfl
        rw [e]; exact k
      · have hne : ds ≠ [] := by
          intro z
          apply c2
          rw [z] at hl
          simp [hl]
        have e0 : isWork n (.tuple ds) = risesP n (-1) ds := by
          show (!ds.isEmpty && risesP n (-1) ds) = _
          cases ds with
          | nil => exact absurd rfl hne
          | cons _ _ => rfl
        rw [e0] at k
        refine ⟨_, rfl, ?_⟩
        refine ⟨_, rfl, a, rfl, ⟨xs, ha⟩, for_tup (K := K) (a := a) (xs := xs) (fun i σ H2 => ∃ (last : Int) (v : Option V), σ = [some (.int n), some (.ref a), some (.int last), v] ∧ H2 = H ∧ risesP n (-1) ds = risesP n last (ds.drop i))
          ⟨-1, none, rfl, rfl, rfl⟩ (fun i σ H2 _ ⟨_, _, _, e, _⟩ => by rw [e]; exact ha) ?_ ?_⟩
        · rintro i y σ H2 hi ⟨last, v, rfl, rfl, hr2⟩
          obtain ⟨dy, hdy, hden⟩ := denAll_at hds hi
          have hdrop : ds.drop i = dy :: ds.drop (i + 1) := by
            obtain ⟨hlt, e⟩ := List.getElem?_eq_some_iff.mp hdy
            rw [List.drop_eq_getElem_cons hlt, e]
          rw [hdrop] at hr2
          refine ⟨_, rfl, y, dy, rfl, hden, _, rfl, ?_⟩
          refine ite2 (fun c3 => ?_) (fun c3 => ?_)
          · refine iteT ?_
            have e : false = risesP n (-1) ds := by rw [hr2, risesP_cons_no]; simpa using c3
            rw [e]; exact k
          · obtain ⟨j, rfl⟩ : ∃ j, dy = .int j := by cases dy <;> first | exact ⟨_, rfl⟩ | (exfalso; simp [isWhole] at c3)
            obtain rfl := den_int.mp hden
            rw [risesP_cons_int] at hr2
            refine ⟨_, rfl, _, rfl, _, _, rfl, rfl, _, rfl, ?_⟩
            refine ite2 (fun c4 => ?_) (fun c4 => ?_)
            · refine iteT ?_
              have c4' : j ≤ last := of_decide_eq_true c4
              have e : false = risesP n (-1) ds := by rw [hr2, decide_eq_false (by omega : ¬ last < j)]; rfl
              rw [e]; exact k
            · have c4' : ¬ j ≤ last := fun z => c4 (decide_eq_true z)
              refine ⟨_, rfl, _, rfl, _, _, rfl, rfl, _, rfl, ?_⟩
              refine ite2 (fun c5 => ?_) (fun c5 => ?_)
              · have c5' : n ≤ j := of_decide_eq_true c5
                have e : false = risesP n (-1) ds := by rw [hr2, decide_eq_false (by omega : ¬ j < n), Bool.and_false]; rfl
                rw [e]; exact k
              · have c5' : ¬ n ≤ j := fun z => c5 (decide_eq_true z)
                refine ⟨_, rfl, j, some (.int j), rfl, rfl, ?_⟩
                rw [hr2, decide_eq_true (by omega : last < j), decide_eq_true (by omega : j < n)]
                rfl
        · rintro σ H2 ⟨last, v, rfl, rfl, hr2⟩
          have e : true = risesP n (-1) ds := by
            rw [hr2, hl, List.drop_length]
            rfl
          show Q (.bl true) _
          rw [e]; exact k
end
end Ab
set_option Elab.async false
set_option linter.all false
set_option maxRecDepth 100000
namespace Ab
open PySem L2
theorem nameAll_go {i : Nat} {x : V} {σ : St} {H : Hp} {A B : St → Hp → Prop} (h : A (σ.set i (some x)) H) : gName i x σ H fun σ2 H2 => tAll σ2 H2 fun b H3 => if b = true then A σ2 H3 else B σ2 H3 := by
  show if true = true then A (σ.set i (some x)) H else B (σ.set i (some x)) H
  exact iteT h
section
variable {P : Program} {w : World} {K : PySem.W.Frag} {mg : Str → Option Value} {base : Heap}
def spBookP (K : PySem.W.Frag) : Sp := fun vs H Q _ => ∃ x d, vs = [x] ∧ Den K H d x ∧ ∀ H', Same H H' → Q (.bl (isBook d)) H'
theorem scBookP : FnScope ["thing", "hands", "works"] ["thing"] (defScope sBookP) := ⟨rfl, rfl, rfl, by decide +kernel, rfl, by decide +kernel, by decide +kernel⟩
theorem ok_bookP {f fW fH fK : Addr} {fd fdW fdH fdK : FuncData} (G : Fn K mg "is_book" sBookP ["thing"] f fd) (B : Bl mg) (W : Fn K mg "is_whole" sWhole ["thing"] fW fdW) (GH : Fn K mg "are_hands" sHands ["thing"] fH fdH) (GK : Fn K mg "is_work" sWorkP ["hands", "thing"] fK fdK) : FnOk P w K mg base CX0 3 f fd ["thing"] (spBookP K) := by
  have OH : FnOk P w K mg base CX0 2 fH fdH ["thing"] (spHands K) := ok_hands GH B W
  have OK : FnOk P w K mg base CX0 2 fK fdK ["hands", "thing"] (spWorkP K) := ok_workP GK B W
  obtain ⟨t12, h12⟩ := B.works
  refine G.fn.ok scBookP (fun vs H Q E h => ?_) (fun cdv A outer s H vs Q E hr h => ?_)
  · obtain ⟨x, d, rfl, _⟩ := h
    rfl
  · obtain ⟨x, d, rfl, hd, k⟩ := h
    refine ⟨_, pss_cons (ps_if (PW.pt (pw_or (pt_not (pt_val (pe_callB call_isi_tuple rfl B.isinstance b_isi (pa_cons (pv 0) (pa_cons (pe_bltn (v := .ty "tuple") rfl B.tuple b_tuple rfl) pa_nil)))))
        (pw_or1 (pt_cmpR op_ne (pe_callB call_len_seq rfl B.len b_len (pa_cons (pv 0) pa_nil)) pe_int (nomark _))))) (pss_one (ps_ret pe_bl)) pss_nil)
      (pss_cons (ps_asg (pv 0) (pg_tup rfl (pgs_cons (pg_name (i := 1) scBookP.nd rfl (Or.inr rfl)) (pgs_cons (pg_name (i := 2) scBookP.nd rfl (Or.inl rfl)) pgs_nil))))
      (pss_cons (ps_if (pt_not (pt_val (pe_fn GH OH hr rfl (pa_cons (pv 1) pa_nil)))) (pss_one (ps_ret pe_bl)) pss_nil)
      (pss_cons (ps_if (PW.pt (pw_or (pt_not (pt_val (pe_callB call_isi_tuple rfl B.isinstance b_isi (pa_cons (pv 2) (pa_cons (pe_bltn (v := .ty "tuple") rfl B.tuple b_tuple rfl) pa_nil)))))
        (pw_or1 (pt_cmpR op_gt (pe_callB call_len_seq rfl B.len b_len (pa_cons (pv 2) pa_nil)) (pe_glob (v := .int 12) rfl h12 ⟨t12, rfl⟩) (nomark _))))) (pss_one (ps_ret pe_bl)) pss_nil)
      (pss_one (ps_ret (pe_callB (call_all rfl) rfl B.all b_all (pa_cons
        (pe_comp (own := ["work"]) (fr := [1]) (frn := ["hands"]) (compOk_of (defScope sBookP) ["thing", "hands", "works"] rfl rfl (by decide +kernel)) rfl (pi_tup (pv 2))
          (fun _ _ _ _ => pg_name (i := 0) (show (["work", "hands"] : List Str).Nodup by decide +kernel) rfl (Or.inl rfl)) (fun _ _ _ _ => pf_nil) (fun _ _ _ _ => pe_fn GK OK hr rfl (pa_cons (pv 1) (pa_cons (pv 0) pa_nil)))) pa_nil))))))), ?_⟩
    refine ⟨_, rfl, x, kdOf d, rfl, hd.kd, _, rfl, ?_⟩
    refine ite2 (fun c => ?_) (fun c => ?_)
    · refine iteT ?_
      have e : false = isBook d := by
        cases d <;> first | rfl | (exfalso; simp [kdOf] at c)
      rw [e]; exact k H (Same.refl H)
    · obtain ⟨ds, rfl⟩ : ∃ ds, d = .tuple ds := by cases d <;> first | exact ⟨_, rfl⟩ | (exfalso; simp [kdOf] at c)
      obtain ⟨a, xs, rfl, ha, hds⟩ := den_tuple.mp hd
      have hl := denAll_length hds
      refine ⟨_, rfl, a, xs, rfl, .inr ha, rfl, _, rfl, ?_⟩
      refine ite2 (fun c2 => ?_) (fun c2 => ?_)
      · have e : false = isBook (.tuple ds) := by
          match ds, hl, c2 with
          | [], _, _ => rfl
          | [_], _, _ => rfl
          | [_, _], hl, c2 => exfalso; rw [hl] at c2; simp at c2
          | _ :: _ :: _ :: _, _, _ => rfl
        rw [e]; exact k H (Same.refl H)
      · obtain ⟨dh, dw, rfl⟩ : ∃ dh dw, ds = [dh, dw] := by
          match ds, hl, c2 with
          | [], hl, c2 => exfalso; rw [hl] at c2; simp at c2
          | [_], hl, c2 => exfalso; rw [hl] at c2; simp at c2
          | [p, q], _, _ => exact ⟨p, q, rfl⟩
          | p :: q :: r :: t, hl, c2 => exfalso; apply c2; rw [hl]; simp; omega
        obtain ⟨xh, r1, rfl, hh, h2⟩ := denAll_cons.mp hds
        obtain ⟨xw, r2, rfl, hw, h3⟩ := denAll_cons.mp h2
        obtain rfl := denAll_nil.mp h3
        -- hands, works = thing
        refine ⟨_, rfl, a, _, rfl, ha, rfl, _, _, rfl, _, _, rfl, rfl, ?_⟩
        -- are_hands(hands)
        refine ⟨_, rfl, xh, dh, rfl, hh, _, rfl, ?_⟩
        refine ite2 (fun c3 => ?_) (fun c3 => ?_)
        · have e : false = isBook (.tuple [dh, dw]) := by
            have c3' : areHands dh = false := by simpa using c3
            cases dh with
            | int n =>
              cases dw with
              | tuple ws =>
                have c4 : (decide (1 ≤ n) && decide (n ≤ 6)) = false := c3'
                show _ = (decide (1 ≤ n) && decide (n ≤ 6) && decide (ws.length ≤ 12) && ws.all (isWork n))
                rw [c4]; rfl
              | _ => rfl
            | _ => rfl
          rw [e]; exact k H (Same.refl H)
        · obtain ⟨n, rfl, hn⟩ : ∃ n, dh = .int n ∧ (decide (1 ≤ n) && decide (n ≤ 6)) = true := by
            cases dh <;> first | exact ⟨_, rfl, by simpa [areHands] using c3⟩ | (exfalso; simp [areHands] at c3)
          obtain rfl := den_int.mp hh
          refine ⟨_, rfl, xw, kdOf dw, rfl, hw.kd, _, rfl, ?_⟩
          refine ite2 (fun c5 => ?_) (fun c5 => ?_)
          · refine iteT ?_
            have e : false = isBook (.tuple [.int n, dw]) := by
              cases dw <;> first | rfl | (exfalso; simp [kdOf] at c5)
            rw [e]; exact k H (Same.refl H)
          · obtain ⟨ws, rfl⟩ : ∃ ws, dw = .tuple ws := by cases dw <;> first | exact ⟨_, rfl⟩ | (exfalso; simp [kdOf] at c5)
            obtain ⟨b, ys, rfl, hb, hws⟩ := den_tuple.mp hw
            have hlw := denAll_length hws
            have eB : isBook (.tuple [.int n, .tuple ws]) = (decide (ws.length ≤ 12) && ws.all (isWork n)) := by
              show (decide (1 ≤ n) && decide (n ≤ 6) && decide (ws.length ≤ 12) && ws.all (isWork n)) = _
              rw [hn, Bool.true_and]
            rw [eB] at k
            refine ⟨_, rfl, b, ys, rfl, .inr hb, _, _, rfl, rfl, _, rfl, ?_⟩
            refine ite2 (fun c6 => ?_) (fun c6 => ?_)
            · have c6' : (12 : Int) < ys.length := of_decide_eq_true c6
              have e : false = (decide (ws.length ≤ 12) && ws.all (isWork n)) := by rw [decide_eq_false (by omega : ¬ ws.length ≤ 12)]; rfl
              rw [e]; exact k H (Same.refl H)
            · have c6' : ¬ (12 : Int) < ys.length := fun z => c6 (decide_eq_true z)
              have e1 : decide (ws.length ≤ 12) = true := decide_eq_true (by omega)
              rw [e1, Bool.true_and] at k
              refine ⟨_, rfl, b, rfl, ⟨ys, hb⟩, comp_tup (K := K) (a := b) (xs := ys) (fun σ => ∃ v, σ = [v, some (.int n)]) (fun i zs H2 => H2 = H ∧ zs = ((ws.take i).map (isWork n)).map V.bl) ?_ ⟨none, rfl⟩ ⟨rfl, rfl⟩ ?_ ?_ ?_ ?_⟩
              · rw [sizeLine_eq]; omega
              · rintro i zs H2 ⟨_, rfl⟩
                rw [List.length_map, List.length_map, List.length_take]; omega
              · rintro i zs H2 ⟨rfl, _⟩
                exact hb
              · rintro i zs σ x H2 hx ⟨v, rfl⟩ ⟨rfl, rfl⟩ hz
                obtain ⟨dx, hdx, hden⟩ := denAll_at hws hx
                refine nameAll_go ?_
                refine ⟨_, rfl, _, rfl, n, x, dx, rfl, hden, hz, ⟨some x, rfl⟩, rfl, ?_⟩
                rw [List.take_succ, hdx]
                simp
              · rintro zs H2 ⟨rfl, rfl⟩ p hp
                refine ⟨p, _, rfl, SqL.of upd_same, ?_⟩
                have e2 : ((ws.take ys.length).map (isWork n)).all id = ws.all (isWork n) := by
                  rw [hlw, List.take_length, List.all_map]
                  rfl
                rw [e2]
                exact k _ (Same.new hp)
end
end Ab
set_option Elab.async false
set_option linter.all false
set_option maxRecDepth 100000
namespace Ab
open PySem L2
def workD (l : List Int) : PyData := .tuple (l.map .int)
def bookD (n : Int) (ws : List (List Int)) : PyData := .tuple [.int n, .tuple (ws.map workD)]
theorem den_book {K : PySem.W.Frag} {H : Hp} {n : Int} {ws : List (List Int)} {x : V} (h : Den K H (bookD n ws) x) : ∃ a b ys, x = .ref a ∧ SqT K H a [.int n, .ref b] ∧ SqT K H b ys ∧ DenAll K H (ws.map workD) ys := by
  obtain ⟨a, xs, rfl, ha, hds⟩ := den_tuple.mp h
  obtain ⟨xh, r1, rfl, hh, h2⟩ := denAll_cons.mp hds
  obtain ⟨xw, r2, rfl, hw, h3⟩ := denAll_cons.mp h2
  obtain rfl := denAll_nil.mp h3
  obtain rfl := den_int.mp hh
  obtain ⟨b, ys, rfl, hb, hys⟩ := den_tuple.mp hw
  exact ⟨a, b, ys, rfl, ha, hb, hys⟩
theorem book_parts {n : Int} {ws : List (List Int)} (h : isBook (bookD n ws) = true) : 1 ≤ n ∧ n ≤ 6 ∧ ws.length ≤ 12 ∧ ∀ l ∈ ws, isWork n (workD l) = true := by
  have h' : (decide (1 ≤ n) && decide (n ≤ 6) && decide ((ws.map workD).length ≤ 12) && (ws.map workD).all (isWork n)) = true := h
  simp only [Bool.and_eq_true, decide_eq_true_eq, List.length_map, List.all_eq_true] at h'
  exact ⟨h'.1.1.1, h'.1.1.2, h'.1.2, fun l hl => h'.2 _ (List.mem_map.mpr ⟨l, hl, rfl⟩)⟩
section
variable {X : Cx} {K : PySem.W.Frag}
theorem op_in_seqK (hK : X.K = K) : OpR X (compareOp .In) (rIn K false) := by subst hK; exact op_in_seq
end
section
variable {P : Program} {w : World} {K : PySem.W.Frag} {mg : Str → Option Value} {base : Heap}
structure Pr (K : PySem.W.Frag) (mg : Str → Option Value) (fW fH fK fB fNB : Addr) (dW dH dK dB dNB : FuncData) : Prop where
  W : Fn K mg "is_whole" sWhole ["thing"] fW dW
  H : Fn K mg "are_hands" sHands ["thing"] fH dH
  Kw : Fn K mg "is_work" sWorkP ["hands", "thing"] fK dK
  B : Fn K mg "is_book" sBookP ["thing"] fB dB
  NB : Fn K mg "need_book" sNeedB ["book"] fNB dNB
variable {fW fH fK fB fNB : Addr} {dW dH dK dB dNB : FuncData}

theorem scNeedB : FnScope ["book"] ["book"] (defScope sNeedB) := ⟨rfl, rfl, rfl, by decide +kernel, rfl, by decide +kernel, by decide +kernel⟩
end
end Ab
set_option Elab.async false
set_option linter.all false
set_option maxRecDepth 100000
namespace L2
open PySem PySem.Spec PyProof.Rows
section
variable {X : Cx}
def CMulB (i j : Int) : Prop := i.natAbs < 2 ^ 4000 ∧ j.natAbs < 2 ^ 4000
theorem bits_le {i : Int} (h : i.natAbs < 2 ^ 4000) : Builtin.Int.intBits i ≤ 2 ^ 20 := by
  unfold Builtin.Int.intBits
  split
  · exact Nat.zero_le _
  · rename_i hz
    have hz' : i ≠ 0 := by simpa using hz
    have h3 : i.natAbs.log2 < 4000 := (Nat.log2_lt (by omega)).mpr h
    have : (2 : Nat) ^ 20 = 1048576 := by decide
    omega
theorem CMulB.ok {i j : Int} (h : CMulB i j) : IntMulOk i j := IntMulOk.of_bits (bits_le h.1) (bits_le h.2)
def CDivG (i j : Int) : Prop := 0 < j ∧ j.natAbs < 2 ^ 4000
theorem op_fdivG : OpR X (binaryOp .FloorDiv) (rI CDivG fun i j => .int (i / j)) := opI fun i j _ _ _ _ _ hc q => by
  have h1 : (0 : Int) < j := hc.1
  refine floordiv_int (by omega) (by rw [Int.fdiv_eq_ediv_of_nonneg i (by omega)]; exact q) (.inl (PyProof.noPylong_of_log2 ?_))
  have h3 : j.natAbs.log2 < 4000 := (Nat.log2_lt (by omega)).mpr hc.2
  omega
end
end L2
namespace Ab
open PySem L2
def But (t : Addr) (H H' : Hp) : Prop := ∀ b o, b ≠ t → H b = some o → H' b = some o
theorem But.refl (t : Addr) (H : Hp) : But t H H := fun _ _ _ h => h
theorem But.trans {t : Addr} {H H1 H2 : Hp} (a : But t H H1) (b : But t H1 H2) : But t H H2 := fun c o n h => b c o n (a c o n h)
theorem But.of {t : Addr} {H H' : Hp} (a : Same H H') : But t H H' := fun c o _ h => a c o h
theorem But.at {t : Addr} {H : Hp} {u : HO} : But t H (upd H t u) := fun c o n h => by rw [upd_ne n]; exact h
theorem But.free {t : Addr} {H H' : Hp} (e : But t H H') {l : Addr} (h : H' l = none) (n : l ≠ t) : H l = none := by
  cases q : H l with
  | none => rfl
  | some o => rw [e l o n q] at h; cases h
theorem But.rdL {t a : Addr} {H H' : Hp} {xs : List V} (e : But t H H') (n : a ≠ t) (h : Rd H a (.lst xs)) : Rd H' a (.lst xs) := by
  rcases h with h | ⟨o, h⟩
  · exact .inl (e a _ n h)
  · exact .inr ⟨o, e a _ n h⟩
section
variable {K : PySem.W.Frag} {t : Addr} {H H' : Hp} {ys : List V}
theorem But.seqT {a : Addr} {xs : List V} (e : But t H H') (ht : H t = some (.lst ys)) (h : SqT K H a xs) : SqT K H' a xs := by
  rcases h with (h | ⟨o, h⟩) | h
  · exact .inl (.inl (e a _ (fun z => by rw [z, ht] at h; cases h) h))
  · exact .inl (.inr ⟨o, e a _ (fun z => by rw [z, ht] at h; cases h) h⟩)
  · exact .inr h
theorem But.seqL {a : Addr} {xs : List V} (e : But t H H') (n : a ≠ t) (h : SqL K H a xs) : SqL K H' a xs := by
  rcases h with h | h
  · exact .inl (e.rdL n h)
  · exact .inr h
mutual
def noList : PyData → Bool
  | .dict _ => false
  | .list _ => false
  | .tuple ds => noLists ds
  | _ => true
def noLists : List PyData → Bool
  | [] => true
  | d :: ds => noList d && noLists ds
end
mutual
theorem But.den (e : But t H H') (ht : H t = some (.lst ys)) : ∀ (d : PyData) (v : V), noList d = true → Den K H d v → Den K H' d v
  | .none, v, _, h => by unfold Den at h ⊢; exact h
  | .bool b, v, _, h => by unfold Den at h ⊢; exact h
  | .int i, v, _, h => by unfold Den at h ⊢; exact h
  | .str x, v, _, h => by unfold Den at h ⊢; exact h
  | .list ds, v, n, h => by unfold noList at n; cases n
  | .tuple ds, v, n, h => by unfold noList at n; unfold Den at h ⊢; obtain ⟨a, xs, h1, h2, h3⟩ := h; exact ⟨a, xs, h1, e.seqT ht h2, But.denAll e ht ds xs n h3⟩
  | .dict kvs, v, n, h => by unfold noList at n; cases n
theorem But.denAll (e : But t H H') (ht : H t = some (.lst ys)) : ∀ (ds : List PyData) (xs : List V), noLists ds = true → DenAll K H ds xs → DenAll K H' ds xs
  | [], xs, _, h => by unfold DenAll at h ⊢; exact h
  | d :: ds, xs, n, h => by
    unfold noLists at n; rw [Bool.and_eq_true] at n
    unfold DenAll at h ⊢; obtain ⟨x, r, h1, h2, h3⟩ := h; exact ⟨x, r, h1, But.den e ht d x n.1 h2, But.denAll e ht ds r n.2 h3⟩
end
end
theorem noLists_map {α : Type} (f : α → PyData) (h : ∀ x, noList (f x) = true) : ∀ l : List α, noLists (l.map f) = true
  | [] => by unfold List.map noLists; rfl
  | x :: r => by rw [List.map_cons]; unfold noLists; rw [h x, noLists_map f h r]; rfl
theorem noList_int (i : Int) : noList (.int i) = true := by unfold noList; rfl
theorem noList_work (l : List Int) : noList (workD l) = true := by unfold workD noList; exact noLists_map _ noList_int l
def Jar (K : PySem.W.Frag) (H : Hp) (t a : Addr) (ns : List Int) (N : Nat) : Prop := (∃ p q : Int, 0 ≤ p ∧ p ≤ N ∧ H t = some (.lst [.ref a, .int p, .int q])) ∧ SqL K H a (ns.map V.int)
section
variable {K : PySem.W.Frag} {H H' : Hp} {t a : Addr} {ns : List Int} {N M : Nat}
theorem Jar.same (h : Jar K H t a ns N) (e : Same H H') : Jar K H' t a ns N := by
  obtain ⟨⟨p, q, h1, h0, h2⟩, h3⟩ := h
  exact ⟨⟨p, q, h1, h0, e t _ h2⟩, e.seqL h3⟩
theorem Jar.more (h : Jar K H t a ns N) (e : N ≤ M) : Jar K H t a ns M := by
  obtain ⟨⟨p, q, h1, h0, h2⟩, h3⟩ := h
  exact ⟨⟨p, q, h1, by omega, h2⟩, h3⟩
theorem Jar.den (h : Jar K H t a ns N) (e : But t H H') {d : PyData} {v : V} (n : noList d = true) (hd : Den K H d v) : Den K H' d v := by
  obtain ⟨⟨p, q, h1, h0, h2⟩, h3⟩ := h
  exact e.den h2 d v n hd
theorem Jar.denAll (h : Jar K H t a ns N) (e : But t H H') {d : List PyData} {v : List V} (n : noLists d = true) (hd : DenAll K H d v) : DenAll K H' d v := by
  obtain ⟨⟨p, q, h1, h0, h2⟩, h3⟩ := h
  exact e.denAll h2 d v n hd
theorem Jar.seqT (h : Jar K H t a ns N) (e : But t H H') {b : Addr} {xs : List V} (hd : SqT K H b xs) : SqT K H' b xs := by
  obtain ⟨⟨p, q, h1, h0, h2⟩, h3⟩ := h
  exact e.seqT h2 hd
theorem Jar.ne (h : Jar K H t a ns N) {b : Addr} (hb : H b = none) : b ≠ t := by
  obtain ⟨⟨p, q, h1, h0, h2⟩, h3⟩ := h
  intro z
  rw [z, h2] at hb
  cases hb
end
theorem noref_ints {ns : List Int} {xs : List V} {a : Addr} {r : List V} (h : ns.map V.int = .ref a :: r) : False := by
  cases ns with
  | nil => cases h
  | cons _ _ => rw [List.map_cons] at h; cases h
theorem tape_upd {K : PySem.W.Frag} {H : Hp} {t a : Addr} {ns : List Int} {p q : Int} {u : HO} (h2 : H t = some (.lst [.ref a, .int p, .int q])) (h : SqL K H a (ns.map V.int)) : SqL K (upd H t u) a (ns.map V.int) := by
  rcases h with (h | ⟨o, h⟩) | h
  · have n : a ≠ t := fun z => by
      rw [z, h2] at h
      injection h with h
      injection h with h
      exact noref_ints (xs := []) h.symm
    exact .inl (.inl (by rw [upd_ne n]; exact h))
  · have n : a ≠ t := fun z => by
      rw [z, h2] at h
      cases h
    exact .inl (.inr ⟨o, by rw [upd_ne n]; exact h⟩)
  · exact .inr h
section
variable {P : Program} {w : World} {K : PySem.W.Frag} {mg : Str → Option Value} {base : Heap}
theorem noDict_ints (ns : List Int) : noDict (.list (ns.map .int)) = true := by
  unfold noDict
  induction ns with
  | nil => unfold List.map noDicts; rfl
  | cons n r ih => rw [List.map_cons]; unfold noDicts; rw [ih]; unfold noDict; rfl
theorem canLay_map {α : Type} (f : α → PyData) (h : ∀ x, (f x).canLay0 = true) : ∀ l : List α, PyData.canLayAll0 (l.map f) = true
  | [] => by unfold List.map PyData.canLayAll0; rfl
  | x :: r => by rw [List.map_cons]; unfold PyData.canLayAll0; rw [h x, canLay_map f h r]; rfl
theorem depth_map {α : Type} {k : Nat} (f : α → PyData) (h : ∀ x, (f x).depth ≤ k) : ∀ l : List α, PyData.depthAll (l.map f) ≤ k
  | [] => by unfold List.map PyData.depthAll; exact Nat.zero_le _
  | x :: r => by rw [List.map_cons]; unfold PyData.depthAll; exact Nat.max_le.mpr ⟨h x, depth_map f h r⟩
theorem canLay_int (i : Int) : (PyData.int i).canLay0 = true := by unfold PyData.canLay0; rfl
theorem depth_int (i : Int) : (PyData.int i).depth ≤ 0 := by unfold PyData.depth; exact Nat.le_refl _
theorem canLay_lints (ns : List Int) : (PyData.list (ns.map .int)).canLay0 = true := by unfold PyData.canLay0; exact canLay_map _ canLay_int ns
theorem canLay_tints (ns : List Int) : (PyData.tuple (ns.map .int)).canLay0 = true := by unfold PyData.canLay0; exact canLay_map _ canLay_int ns
theorem depth_lints (ns : List Int) : (PyData.list (ns.map .int)).depth ≤ 1 := by unfold PyData.depth; exact Nat.succ_le_succ (depth_map _ depth_int ns)
theorem depth_tints (ns : List Int) : (PyData.tuple (ns.map .int)).depth ≤ 1 := by unfold PyData.depth; exact Nat.succ_le_succ (depth_map _ depth_int ns)
theorem shaped_of {d : PyData} (h1 : d.canLay0 = true) (h2 : d.depth ≤ 64) : SeqAt.shaped d = true := by
  unfold SeqAt.shaped
  rw [h1, decide_eq_true h2]
  rfl
theorem shaped_ints (ns : List Int) : SeqAt.shaped (.list (ns.map .int)) = true := shaped_of (canLay_lints ns) (Nat.le_trans (depth_lints ns) (by decide))
theorem shaped_tints (ns : List Int) : SeqAt.shaped (.tuple (ns.map .int)) = true := shaped_of (canLay_tints ns) (Nat.le_trans (depth_tints ns) (by decide))
theorem noDict_tints (ns : List Int) : noDict (.tuple (ns.map .int)) = true := by
  have h := noDict_ints ns
  unfold noDict at h ⊢
  exact h
theorem _root_.L2.Room.u64 {k : Nat} {A : Around} (r : Room k A) : A.units + 64 < cLine := by have := r.un; omega
def spWhirl : Sp := fun vs H Q _ => ∃ c a : Int, vs = [.int c, .int a] ∧ 0 ≤ a ∧ a ≤ 1000000 ∧ ∀ r, Q (.int r) H
theorem scWhirl : FnScope ["cell", "at", "one", "two", "three"] ["cell", "at"] (defScope sWhirl) := ⟨rfl, rfl, rfl, by decide +kernel, rfl, by decide +kernel, by decide +kernel⟩
theorem ok_whirl {f : Addr} {fd : FuncData} (G : Fn K mg "_law_e_whirl" sWhirl ["cell", "at"] f fd) : FnOk P w K mg base CX0 1 f fd ["cell", "at"] spWhirl := by
  refine G.fn.ok scWhirl (fun vs H Q E h => ?_) (fun cdv A outer s H vs Q E hr h => ?_)
  · obtain ⟨c, a, rfl, _⟩ := h
    rfl
  · obtain ⟨c, a, rfl, a0, a1, k⟩ := h
    refine ⟨_, (pss_cons (ps_if (pt_cmpR op_ge (pv 0) (pe_op op_pow pe_int pe_int) (nomark _))
      (pss_one (ps_ret (pv 0)))
      pss_nil)
    (pss_cons (ps_set (i := 2) scWhirl.nd rfl (Or.inl rfl) (pe_op op_mod (pe_op op_add (pe_op op_add (pe_op op_mul (pe_op op_mod (pv 0) pe_int) pe_int) (pe_op op_mul (pv 1) pe_int)) pe_int) pe_int))
    (pss_cons (ps_set (i := 3) scWhirl.nd rfl (Or.inl rfl) (pe_op op_mod (pe_op op_add (pe_op op_add (pe_op op_add (pe_op op_mul (pv 2) (pv 2)) (pe_op op_mul (pe_op op_mul pe_int (pv 1)) (pv 1))) (pe_op op_mul pe_int (pv 2))) pe_int) pe_int))
    (pss_cons (ps_set (i := 4) scWhirl.nd rfl (Or.inl rfl) (pe_op op_mod (pe_op op_add (pe_op op_add (pe_op op_add (pe_op op_mul (pv 3) (pv 3)) (pe_op op_mul pe_int (pv 3))) (pv 2)) (pe_op op_mul pe_int (pv 1))) pe_int))
    (pss_one (ps_ret (pe_op op_add (pe_op op_mul (pv 3) pe_int) (pv 4)))))))), ?_⟩
    refine ⟨_, rfl, _, _, rfl, rfl, ⟨by decide, by decide, by decide⟩, _, _, rfl, rfl, _, rfl, ?_⟩
    refine ite2 (fun c1 => ?_) (fun c1 => ?_)
    · exact ⟨_, rfl, k _⟩
    · refine ⟨_, rfl, _, _, rfl, rfl, (show (0 : Int) < _ by decide), _, _, rfl, rfl, .inr ⟨by decide, by decide⟩, _, rfl, _, _, rfl, rfl, .inr ⟨by decide, by decide⟩, _, _, rfl, rfl, _, _, rfl, rfl, _, _, rfl, rfl, (show (0 : Int) < _ by decide), ?_⟩
      generalize hf : ((c % 2147483423 * 40013 + a * 15073 + 83) % 2147483399 : Int) = f1
      have b1 : 0 ≤ f1 ∧ f1 < 2147483399 := by rw [← hf]; exact ⟨Int.emod_nonneg _ (by decide), Int.emod_lt_of_pos _ (by decide)⟩
      refine ⟨_, rfl, _, rfl, _, _, rfl, rfl, .inl ⟨by omega, by omega⟩, _, rfl, _, _, rfl, rfl, .inl ⟨by decide, by decide⟩, _, rfl, _, _, rfl, rfl, .inr ⟨by omega, by omega⟩, _, _, rfl, rfl, _, rfl, _, _, rfl, rfl, .inl ⟨by decide, by decide⟩, _, _, rfl, rfl, _, _, rfl, rfl, _, _, rfl, rfl, (show (0 : Int) < _ by decide), ?_⟩
      generalize hg : ((f1 * f1 + 521 * a * a + 11 * f1 + 7) % 2147483353 : Int) = f2
      have b2 : 0 ≤ f2 ∧ f2 < 2147483353 := by rw [← hg]; exact ⟨Int.emod_nonneg _ (by decide), Int.emod_lt_of_pos _ (by decide)⟩
      refine ⟨_, rfl, _, rfl, _, _, rfl, rfl, .inl ⟨by omega, by omega⟩, _, rfl, _, _, rfl, rfl, .inl ⟨by decide, by decide⟩, _, _, rfl, rfl, _, rfl, _, _, rfl, rfl, _, rfl, _, _, rfl, rfl, .inl ⟨by decide, by decide⟩, _, _, rfl, rfl, _, _, rfl, rfl, (show (0 : Int) < _ by decide), ?_⟩
      exact ⟨_, rfl, _, _, rfl, rfl, .inr ⟨by decide, by decide⟩, _, rfl, _, _, rfl, rfl, k _⟩
def spScoop (K : PySem.W.Frag) : Sp := fun vs H Q _ => ∃ (t a : Addr) (ns : List Int) (N : Nat) (m : Int), vs = [.ref t, .int m] ∧ Jar K H t a ns N ∧ N ≤ 900000 ∧ 0 < m ∧ m.natAbs < 2 ^ 4000 ∧ ∀ r H', 0 ≤ r → r < m → But t H H' → Jar K H' t a ns (N + 1) → Q (.int r) H'
theorem scScoop : FnScope ["jar", "many", "at", "cell", "found"] ["jar", "many"] (defScope sScoop) := ⟨rfl, rfl, rfl, by decide +kernel, rfl, by decide +kernel, by decide +kernel⟩
theorem ok_scoop {f fS : Addr} {fd fdS : FuncData} (G : Fn K mg "_law_e_scoop" sScoop ["jar", "many"] f fd) (B : Bl mg) (GWh : Fn K mg "_law_e_whirl" sWhirl ["cell", "at"] fS fdS) : FnOk P w K mg base CX0 2 f fd ["jar", "many"] (spScoop K) := by
  have OWh : FnOk P w K mg base CX0 1 fS fdS ["cell", "at"] spWhirl := ok_whirl GWh
  refine G.fn.ok scScoop (fun vs H Q E h => ?_) (fun cdv A outer s H vs Q E hr h => ?_)
  · obtain ⟨t, a, ns, N, m, rfl, _⟩ := h
    rfl
  · obtain ⟨t, a, ns, N, m, rfl, ⟨⟨p, q, hp, hpN, ht⟩, hns⟩, hN, hm1, hm2, k⟩ := h
    have r1 : Room 1 _ := hr
    refine ⟨_, (pss_cons (ps_if (pt_cmpR op_lt (pe_ix ix_list (pv 0) pe_int (fun _ _ => rfl)) (pv 1) (nomark _))
      (pss_cons (ps_set (i := 2) scScoop.nd rfl (Or.inl rfl) (pe_ix ix_list (pv 0) pe_int (fun _ _ => rfl)))
    (pss_cons (ps_set (i := 3) scScoop.nd rfl (Or.inl rfl) (pe_op op_add (pe_op op_mul pe_int (pv 2)) pe_int))
    (pss_cons (ps_if (pt_cmpR op_lt (pv 2) (pe_callB call_len_seq rfl B.len b_len (pa_cons (pe_ix ix_list (pv 0) pe_int (fun _ _ => rfl)) pa_nil)) (nomark _))
      (pss_one (ps_set (i := 3) scScoop.nd rfl (Or.inl rfl) (pe_ix ix_list (pe_ix ix_list (pv 0) pe_int (fun _ _ => rfl)) (pv 2) (fun _ _ => rfl))))
      (pss_one (ps_if (pt_cmpR op_gt (pe_callB call_len_seq rfl B.len b_len (pa_cons (pe_ix ix_list (pv 0) pe_int (fun _ _ => rfl)) pa_nil)) pe_int (nomark _))
      (pss_one (ps_set (i := 3) scScoop.nd rfl (Or.inl rfl) (pe_op op_add (pe_op op_mod (pe_ix ix_list (pe_ix ix_list (pv 0) pe_int (fun _ _ => rfl)) (pe_op op_mod (pe_op op_add (pe_op op_mul pe_int (pv 2)) pe_int) (pe_callB call_len_seq rfl B.len b_len (pa_cons (pe_ix ix_list (pv 0) pe_int (fun _ _ => rfl)) pa_nil))) (fun _ _ => rfl)) pe_int) (pe_op op_mul (pv 2) pe_int))))
      pss_nil)))
    (pss_cons (ps_asg (pe_op op_add (pv 2) pe_int) (pg_sub (pv 0) pe_int set_list))
    (pss_one (ps_asg (pe_fn GWh OWh r1 rfl (pa_cons (pv 3) (pa_cons (pv 2) pa_nil))) (pg_sub (pv 0) pe_int set_list)))))))
      pss_nil)
    (pss_cons (ps_set (i := 4) scScoop.nd rfl (Or.inl rfl) (pe_op op_mod (pe_ix ix_list (pv 0) pe_int (fun _ _ => rfl)) (pv 1)))
    (pss_cons (ps_asg (pe_op op_fdivG (pe_ix ix_list (pv 0) pe_int (fun _ _ => rfl)) (pv 1)) (pg_sub (pv 0) pe_int set_list))
    (pss_one (ps_ret (pv 4)))))), ?_⟩
    have last : ∀ (p1 r : Int) (H' : Hp), 0 ≤ p1 → p1 ≤ N + 1 → But t H H' → H' t = some (.lst [.ref a, .int p1, .int r]) → SqL K H' a (ns.map V.int) → Q (.int (r % m)) (upd H' t (.lst [.ref a, .int p1, .int (r / m)])) := fun p1 r H' h0 h1 b' h2 h3 =>
      k _ _ (Int.emod_nonneg _ (by omega)) (Int.emod_lt_of_pos _ hm1) (b'.trans But.at) ⟨⟨p1, r / m, h0, by omega, upd_same⟩, tape_upd h2 h3⟩
    refine ⟨_, rfl, t, _, 2, .int q, rfl, rfl, SqL.of ht, rfl, _, rfl, _, _, rfl, rfl, _, rfl, ?_⟩
    refine ite2 (fun c1 => ?_) (fun c1 => ?_)
    · refine ⟨_, rfl, t, _, 1, .int p, rfl, rfl, SqL.of ht, rfl, ?_⟩
      refine ⟨_, rfl, _, _, rfl, rfl, .inl ⟨by decide, by decide⟩, _, _, rfl, rfl, ?_⟩
      refine ⟨_, rfl, _, rfl, t, _, 0, .ref a, rfl, rfl, SqL.of ht, rfl, a, _, rfl, .inl hns, _, _, rfl, rfl, _, rfl, ?_⟩
      refine ite2 (fun c2 => ?_) (fun c2 => ?_)
      · have c2' : p < ((ns.map V.int).length : Int) := of_decide_eq_true c2
        rw [List.length_map] at c2'
        have hlt : p.toNat < ns.length := by omega
        have hat : atI (ns.map V.int) p = some (.int (ns[p.toNat])) := by
          have h1 : (ns.map V.int)[p.toNat]? = some (.int (ns[p.toNat])) := by rw [List.getElem?_map, List.getElem?_eq_getElem hlt]; rfl
          have h2 := atI_nat h1
          rwa [Int.toNat_of_nonneg hp] at h2
        refine ⟨_, rfl, t, _, 0, .ref a, rfl, rfl, SqL.of ht, rfl, _, rfl, a, _, _, _, rfl, rfl, hns, hat, ?_⟩
        refine ⟨_, rfl, _, _, rfl, rfl, _, rfl, t, _, _, 1, rfl, rfl, ht, rfl, ?_⟩
        refine ⟨_, rfl, _, rfl, _, _, rfl, hp, by omega, fun r => ⟨_, rfl, t, _, _, 2, rfl, rfl, upd_same, rfl, ?_⟩⟩
        refine ⟨_, rfl, t, _, 2, .int r, rfl, rfl, SqL.of upd_same, rfl, _, rfl, _, _, rfl, rfl, hm1, ?_⟩
        refine ⟨_, rfl, t, _, 2, .int r, rfl, rfl, SqL.of upd_same, rfl, _, rfl, _, _, rfl, rfl, ⟨hm1, hm2⟩, _, rfl, t, _, _, 2, rfl, rfl, upd_same, rfl, ?_⟩
        exact ⟨_, rfl, last (p + 1) r _ (by omega) (by omega) (But.at.trans But.at) upd_same (tape_upd (p := p + 1) (q := q) upd_same (tape_upd ht hns))⟩
      · refine ⟨_, rfl, t, _, 0, .ref a, rfl, rfl, SqL.of ht, rfl, a, _, rfl, .inl hns, _, _, rfl, rfl, _, rfl, ?_⟩
        refine ite2 (fun c3 => ?_) (fun c3 => ?_)
        · have hpos : 0 < ns.length := by
            have := of_decide_eq_true c3
            rw [List.length_map] at this
            omega
          have hlt : ((7 * p + 3) % (ns.length : Int)).toNat < ns.length := by
            have := Int.emod_nonneg (7 * p + 3) (show (ns.length : Int) ≠ 0 by omega)
            have := Int.emod_lt_of_pos (7 * p + 3) (show (0 : Int) < ns.length by omega)
            omega
          have hat : atI (ns.map V.int) ((7 * p + 3) % ((ns.map V.int).length : Int)) = some (.int (ns[((7 * p + 3) % (ns.length : Int)).toNat])) := by
            have h1 : (ns.map V.int)[((7 * p + 3) % (ns.length : Int)).toNat]? = some (.int (ns[((7 * p + 3) % (ns.length : Int)).toNat])) := by rw [List.getElem?_map, List.getElem?_eq_getElem hlt]; rfl
            have h2 := atI_nat h1
            rw [List.length_map]
            rwa [Int.toNat_of_nonneg (Int.emod_nonneg _ (by omega))] at h2
          refine ⟨_, rfl, t, _, 0, .ref a, rfl, rfl, SqL.of ht, rfl, _, rfl, _, _, rfl, rfl, .inl ⟨by decide, by decide⟩, _, _, rfl, rfl, _, rfl, t, _, 0, .ref a, rfl, rfl, SqL.of ht, rfl, a, _, rfl, .inl hns, _, _, rfl, rfl, (show (0 : Int) < ((ns.map V.int).length : Int) by rw [List.length_map]; omega), a, _, _, _, rfl, rfl, hns, hat, _, _, rfl, rfl, (show (0 : Int) < _ by decide), _, rfl, _, _, rfl, rfl, .inr ⟨by decide, by decide⟩, _, _, rfl, rfl, ?_⟩
          refine ⟨_, rfl, _, _, rfl, rfl, _, rfl, t, _, _, 1, rfl, rfl, ht, rfl, ?_⟩
          refine ⟨_, rfl, _, rfl, _, _, rfl, hp, by omega, fun r => ⟨_, rfl, t, _, _, 2, rfl, rfl, upd_same, rfl, ?_⟩⟩
          refine ⟨_, rfl, t, _, 2, .int r, rfl, rfl, SqL.of upd_same, rfl, _, rfl, _, _, rfl, rfl, hm1, ?_⟩
          refine ⟨_, rfl, t, _, 2, .int r, rfl, rfl, SqL.of upd_same, rfl, _, rfl, _, _, rfl, rfl, ⟨hm1, hm2⟩, _, rfl, t, _, _, 2, rfl, rfl, upd_same, rfl, ?_⟩
          exact ⟨_, rfl, last (p + 1) r _ (by omega) (by omega) (But.at.trans But.at) upd_same (tape_upd (p := p + 1) (q := q) upd_same (tape_upd ht hns))⟩
        · show _
          refine ⟨_, rfl, _, _, rfl, rfl, _, rfl, t, _, _, 1, rfl, rfl, ht, rfl, ?_⟩
          refine ⟨_, rfl, _, rfl, _, _, rfl, hp, by omega, fun r => ⟨_, rfl, t, _, _, 2, rfl, rfl, upd_same, rfl, ?_⟩⟩
          refine ⟨_, rfl, t, _, 2, .int r, rfl, rfl, SqL.of upd_same, rfl, _, rfl, _, _, rfl, rfl, hm1, ?_⟩
          refine ⟨_, rfl, t, _, 2, .int r, rfl, rfl, SqL.of upd_same, rfl, _, rfl, _, _, rfl, rfl, ⟨hm1, hm2⟩, _, rfl, t, _, _, 2, rfl, rfl, upd_same, rfl, ?_⟩
          exact ⟨_, rfl, last (p + 1) r _ (by omega) (by omega) (But.at.trans But.at) upd_same (tape_upd (p := p + 1) (q := q) upd_same (tape_upd ht hns))⟩
    · show _
      refine ⟨_, rfl, t, _, 2, .int q, rfl, rfl, SqL.of ht, rfl, _, rfl, _, _, rfl, rfl, hm1, ?_⟩
      refine ⟨_, rfl, t, _, 2, .int q, rfl, rfl, SqL.of ht, rfl, _, rfl, _, _, rfl, rfl, ⟨hm1, hm2⟩, _, rfl, t, _, _, 2, rfl, rfl, ht, rfl, ?_⟩
      exact ⟨_, rfl, last p q _ hp (by omega) (But.refl _ _) ht hns⟩
end
end Ab
set_option Elab.async false
set_option linter.all false
set_option maxRecDepth 100000
namespace Ab
open PySem L2
theorem rises_of (n : Int) : ∀ (l : List Int) (last : Int), (∀ x ∈ l, last < x) → l.Pairwise (· < ·) → (∀ x ∈ l, x < n) → risesP n last (l.map .int) = true
  | [], _, _, _, _ => rfl
  | x :: r, last, h1, h2, h3 => by
    rw [List.map_cons, risesP_cons_int]
    have h2' := List.pairwise_cons.mp h2
    rw [decide_eq_true (h1 x (List.mem_cons_self ..)), decide_eq_true (h3 x (List.mem_cons_self ..)), rises_of n r x h2'.1 h2'.2 (fun y hy => h3 y (List.mem_cons_of_mem _ hy))]
    rfl
theorem work_of {n : Int} {l : List Int} (h0 : l ≠ []) (h1 : ∀ x ∈ l, 0 ≤ x ∧ x < n) (h2 : l.Pairwise (· < ·)) : isWork n (workD l) = true := by
  have e : isWork n (workD l) = (!(l.map PyData.int).isEmpty && risesP n (-1) (l.map .int)) := rfl
  rw [e, rises_of n l (-1) (fun x hx => by have := (h1 x hx).1; omega) h2 (fun x hx => (h1 x hx).2)]
  cases l with
  | nil => exact absurd rfl h0
  | cons _ _ => rfl
theorem rises_parts (n : Int) : ∀ (l : List Int) (last : Int), risesP n last (l.map .int) = true → l.Pairwise (· < ·) ∧ ∀ x ∈ l, last < x ∧ x < n
  | [], _, _ => ⟨.nil, fun _ h => by cases h⟩
  | x :: r, last, h => by
    rw [List.map_cons, risesP_cons_int, Bool.and_eq_true, Bool.and_eq_true] at h
    obtain ⟨⟨h1, h2⟩, h3⟩ := h
    have h1 := of_decide_eq_true h1
    have h2 := of_decide_eq_true h2
    obtain ⟨i1, i2⟩ := rises_parts n r x h3
    refine ⟨List.pairwise_cons.mpr ⟨fun y hy => (i2 y hy).1, i1⟩, fun y hy => ?_⟩
    rcases List.mem_cons.mp hy with rfl | hy
    · exact ⟨h1, h2⟩
    · exact ⟨by have := (i2 y hy).1; omega, (i2 y hy).2⟩
theorem work_parts {n : Int} {l : List Int} (h : isWork n (workD l) = true) : l ≠ [] ∧ (∀ x ∈ l, 0 ≤ x ∧ x < n) ∧ l.Pairwise (· < ·) := by
  have e : (!(l.map PyData.int).isEmpty && risesP n (-1) (l.map .int)) = true := h
  rw [Bool.and_eq_true] at e
  obtain ⟨h1, h2⟩ := rises_parts n l (-1) e.2
  refine ⟨fun z => by rw [z] at e; simp at e, fun x hx => ⟨by have := (h2 x hx).1; omega, (h2 x hx).2⟩, h1⟩
theorem short_from {n : Int} : ∀ (l : List Int) (lo : Int), lo ≤ n → (∀ x ∈ l, lo ≤ x ∧ x < n) → l.Pairwise (· < ·) → (l.length : Int) ≤ n - lo
  | [], lo, h, _, _ => by simp; omega
  | x :: r, lo, h, h1, h2 => by
    have h2' := List.pairwise_cons.mp h2
    have hx := h1 x (List.mem_cons_self ..)
    have := short_from r (x + 1) (by omega) (fun y hy => ⟨by have := h2'.1 y hy; omega, (h1 y (List.mem_cons_of_mem _ hy)).2⟩) h2'.2
    rw [List.length_cons]
    omega
theorem work_short {n : Int} {l : List Int} (hn : 0 ≤ n) (h1 : ∀ x ∈ l, 0 ≤ x ∧ x < n) (h2 : l.Pairwise (· < ·)) : (l.length : Int) ≤ n := by
  have := short_from l 0 hn h1 h2
  omega
theorem sz1 (x : V) : [x].length ≤ sizeLine := by rw [sizeLine_eq]; simp
theorem sz2 (x y : V) : [x, y].length ≤ sizeLine := by rw [sizeLine_eq]; simp
theorem size1 {n : Nat} (h : n ≤ 1000) : n ≤ sizeLine := by rw [sizeLine_eq]; omega
theorem book_of {n : Int} {ws : List (List Int)} (h1 : 1 ≤ n) (h2 : n ≤ 6) (h3 : ws.length ≤ 12) (h4 : ∀ l ∈ ws, isWork n (workD l) = true) : isBook (bookD n ws) = true := by
  show (decide (1 ≤ n) && decide (n ≤ 6) && decide ((ws.map workD).length ≤ 12) && (ws.map workD).all (isWork n)) = true
  rw [decide_eq_true h1, decide_eq_true h2, List.length_map, decide_eq_true h3, Bool.true_and, Bool.true_and, Bool.true_and, List.all_eq_true]
  intro d hd
  obtain ⟨l, hl, rfl⟩ := List.mem_map.mp hd
  exact h4 l hl
section
variable {P : Program} {w : World} {K : PySem.W.Frag} {mg : Str → Option Value} {base : Heap}
def spAble (K : PySem.W.Frag) : Sp := fun vs H Q _ => ∃ (t a : Addr) (ns : List Int) (N : Nat) (n : Int), vs = [.ref t, .int n] ∧ Jar K H t a ns N ∧ N ≤ 800000 ∧ 1 ≤ n ∧ n ≤ 6 ∧ ∀ l p H', isWork n (workD l) = true → But t H H' → Jar K H' t a ns (N + 8) → SqT K H' p (l.map V.int) → Q (.ref p) H'
theorem scAble : FnScope ["jar", "hands", "often", "some"] ["jar", "hands"] (defScope sAble) := ⟨rfl, rfl, rfl, by decide +kernel, rfl, by decide +kernel, by decide +kernel⟩
set_option maxHeartbeats 1000000 in
theorem ok_able {f fS : Addr} {fd fdS : FuncData} (G : Fn K mg "_law_e_able" sAble ["jar", "hands"] f fd) (B : Bl mg) (GSc : Fn K mg "_law_e_scoop" sScoop ["jar", "many"] fS fdS) (OSc : FnOk P w K mg base CX0 2 fS fdS ["jar", "many"] (spScoop K)) : FnOk P w K mg base CX0 3 f fd ["jar", "hands"] (spAble K) := by
  refine G.fn.ok scAble (fun vs H Q E h => ?_) (fun cdv A outer s H vs Q E hr h => ?_)
  · obtain ⟨t, a, ns, N, n, rfl, _⟩ := h
    rfl
  · obtain ⟨t, a, ns, N, n, rfl, hJ, hN, hn1, hn6, k⟩ := h
    have r2 : Room 2 _ := hr
    refine ⟨_, (pss_cons (ps_set (i := 2) scAble.nd rfl (Or.inr rfl) (pe_op op_add pe_int (pe_fn GSc OSc r2 rfl (pa_cons (pv 0) (pa_cons pe_int pa_nil)))))
    (pss_cons (ps_set (i := 3) scAble.nd rfl (Or.inl rfl) (pe_callTy call_tuple_of rfl B.tuple b_tuple (pa_cons (pe_comp (own := ["hand"]) (fr := [0, 2]) (frn := ["jar", "often"]) (compOk_of (defScope sAble) ["jar", "hands", "often", "some"] rfl rfl (by decide +kernel)) rfl (pi_range1 rfl B.range (pa_cons (pv 1) pa_nil))
        (fun _ _ _ _ => (pg_name (i := 0) (show (["hand", "jar", "often"] : List Str).Nodup by decide +kernel) rfl (Or.inl rfl))) (fun _ _ _ _ => pf_one (pt_cmpR op_eq (pe_fn GSc OSc r2 rfl (pa_cons (pv 1) (pa_cons (pv 2) pa_nil))) pe_int (nomark _)))
        (fun _ _ _ _ => (pv 0))) pa_nil)))
    (pss_cons (ps_if (pt_cmpR (op_eqD hr.u64) (pv 3) (pe_tup pa_nil) (nomark _))
      (pss_one (ps_set (i := 3) scAble.nd rfl (Or.inl rfl) (pe_tup (pa_cons (pe_fn GSc OSc r2 rfl (pa_cons (pv 0) (pa_cons (pv 1) pa_nil))) pa_nil))))
      pss_nil)
    (pss_one (ps_ret (pv 3)))))), ?_⟩
    refine ⟨_, rfl, t, a, ns, N, 3, rfl, hJ, by omega, by decide, by decide, fun r H1 h10 h11 b1 J1 => ⟨_, _, rfl, rfl, ?_⟩⟩
    refine ⟨_, rfl, n, rfl, by omega, by omega, comp_range (lo := 0) (n := n.toNat) (fun σ => ∃ v, σ = [v, some (.ref t), some (.int (2 + r))]) (fun i zs H2 => ∃ l : List Int, zs = l.map V.int ∧ l.Pairwise (· < ·) ∧ (∀ x ∈ l, 0 ≤ x ∧ x < i) ∧ But t H H2 ∧ Jar K H2 t a ns (N + 1 + i)) (size1 (by omega)) ⟨none, rfl⟩ ⟨[], rfl, .nil, fun _ h => (List.not_mem_nil h).elim, b1, J1⟩ ?_ ?_ ?_⟩
    · rintro i zs H2 ⟨l, rfl, hp, hb, _⟩
      rw [List.length_map]
      have := work_short (n := (i : Int)) (by omega) hb hp
      omega
    · rintro i zs σ H2 hi ⟨v, rfl⟩ ⟨l, rfl, hp, hb, b2, J2⟩ hz
      refine ⟨_, rfl, _, rfl, t, a, ns, N + 1 + i, 2 + r, rfl, J2, by omega, by omega, by omega, fun r3 H3 h30 h31 b3 J3 => ⟨rfl, _, rfl, ?_⟩⟩
      refine ite2 (fun c1 => ?_) (fun c1 => ?_)
      · refine ⟨_, rfl, hz, ⟨_, rfl⟩, l ++ [0 + (i : Int)], by rw [List.map_append]; rfl, List.pairwise_append.mpr ⟨hp, by simp, fun x hx y hy => ?_⟩, fun x hx => ?_, b2.trans b3, J3⟩
        · rw [List.mem_singleton.mp hy]
          have := hb x hx
          omega
        · rcases List.mem_append.mp hx with hx | hx
          · have := hb x hx
            omega
          · rw [List.mem_singleton.mp hx]
            omega
      · exact ⟨⟨_, rfl⟩, l, rfl, hp, fun x hx => by have := hb x hx; omega, b2.trans b3, J3⟩
    · rintro zs H2 ⟨l, rfl, hp, hb, b2, J2⟩ z hz
      refine ⟨z, _, rfl, .inl ⟨SqL.of upd_same, fun q hq => ?_⟩⟩
      have s3 := (Same.new (o := .lst (l.map V.int)) hz).trans (Same.new (o := .tup (l.map V.int)) hq)
      have e3 : upd (upd H2 z (.lst (l.map V.int))) q (.tup (l.map V.int)) q = some (.tup (l.map V.int)) := upd_same
      generalize upd (upd H2 z (.lst (l.map V.int))) q (.tup (l.map V.int)) = H3 at s3 e3 ⊢
      refine ⟨_, rfl, size1 (Nat.zero_le _), fun z2 hz2 => ?_⟩
      have s4 := Same.new (o := .tup []) hz2
      refine ⟨.tuple (l.map .int), .tuple (([] : List Int).map .int), den_tints.mpr ⟨q, rfl, s4.seqT (SqT.of e3)⟩, den_tints.mpr ⟨z2, rfl, SqT.of upd_same⟩, noDict_tints _, noDict_tints _, shaped_tints _, shaped_tints _, _, rfl, ?_⟩
      have J4 := (J2.same s3).same s4
      have b4 := b2.trans (But.of (s3.trans s4))
      have e4 := s4 _ _ e3
      generalize upd H3 z2 (.tup []) = H4 at s4 J4 b4 e4 ⊢
      refine ite2 (fun c1 => ?_) (fun c1 => ?_)
      · refine ⟨_, rfl, _, rfl, t, a, ns, _, n, rfl, J4, by omega, by omega, by omega, fun r5 H5 h50 h51 b5 J5 => ⟨sz1 _, fun p hp5 => ?_⟩⟩
        refine ⟨_, rfl, k [r5] p _ (work_of (by simp) (fun x hx => ?_) (by simp)) (b4.trans (b5.trans (But.of (Same.new hp5)))) ((J5.same (Same.new hp5)).more (by omega)) (SqT.of upd_same)⟩
        rw [List.mem_singleton.mp hx]
        exact ⟨h50, h51⟩
      · refine ⟨_, rfl, k l q _ (work_of (fun z => ?_) (fun x hx => by have := hb x hx; omega) hp) b4 (J4.more (by omega)) (SqT.of e4)⟩
        rw [z] at c1
        exact c1 (by decide +kernel)
def spEBook (K : PySem.W.Frag) : Sp := fun vs H Q _ => ∃ (t a : Addr) (ns : List Int) (N : Nat) (M : Int), vs = [.ref t, .int M] ∧ 0 ≤ M ∧ M ≤ 12 ∧ Jar K H t a ns N ∧ N ≤ 700000 ∧ ∀ n ws p H', isBook (bookD n ws) = true → But t H H' → Jar K H' t a ns (N + 100) → Den K H' (bookD n ws) (.ref p) → Q (.ref p) H'
theorem scEBook : FnScope ["jar", "most", "hands"] ["jar", "most"] (defScope sEBook) := ⟨rfl, rfl, rfl, by decide +kernel, rfl, by decide +kernel, by decide +kernel⟩
set_option maxHeartbeats 1000000 in
theorem ok_ebook {f fS fA : Addr} {fd fdS dA : FuncData} (G : Fn K mg "_law_e_book" sEBook ["jar", "most"] f fd) (B : Bl mg) (GSc : Fn K mg "_law_e_scoop" sScoop ["jar", "many"] fS fdS) (OSc : FnOk P w K mg base CX0 2 fS fdS ["jar", "many"] (spScoop K)) (GAb : Fn K mg "_law_e_able" sAble ["jar", "hands"] fA dA) (OAb : FnOk P w K mg base CX0 3 fA dA ["jar", "hands"] (spAble K)) : FnOk P w K mg base CX0 4 f fd ["jar", "most"] (spEBook K) := by
  refine G.fn.ok scEBook (fun vs H Q E h => ?_) (fun cdv A outer s H vs Q E hr h => ?_)
  · obtain ⟨t, a, ns, N, M, rfl, _⟩ := h
    rfl
  · obtain ⟨t, a, ns, N, M, rfl, hM0, hM, hJ, hN, k⟩ := h
    have r2 : Room 2 _ := hr.mono (by decide)
    have r3 : Room 3 _ := hr
    refine ⟨_, (pss_cons (ps_set (i := 2) scEBook.nd rfl (Or.inr rfl) (pe_op op_add pe_int (pe_fn GSc OSc r2 rfl (pa_cons (pv 0) (pa_cons pe_int pa_nil)))))
    (pss_one (ps_ret (pe_tup (pa_cons (pv 2) (pa_cons (pe_callTy call_tuple_of rfl B.tuple b_tuple (pa_cons (pe_comp (own := ["turn"]) (fr := [2, 0]) (frn := ["hands", "jar"]) (compOk_of (defScope sEBook) ["jar", "most", "hands"] rfl rfl (by decide +kernel)) rfl (pi_range1 rfl B.range (pa_cons (pe_fn GSc OSc r2 rfl (pa_cons (pv 0) (pa_cons (pe_op op_add (pv 1) pe_int) pa_nil))) pa_nil))
        (fun _ _ _ _ => (pg_name (i := 0) (show (["turn", "hands", "jar"] : List Str).Nodup by decide +kernel) rfl (Or.inl rfl))) (fun _ _ _ _ => pf_nil)
        (fun _ _ _ _ => (pe_fn GAb OAb r3 rfl (pa_cons (pv 2) (pa_cons (pv 1) pa_nil))))) pa_nil)) pa_nil)))))), ?_⟩
    refine ⟨_, rfl, t, a, ns, N, 6, rfl, hJ, by omega, by decide, by decide, fun r H1 h10 h11 b1 J1 => ⟨_, _, rfl, rfl, ?_⟩⟩
    refine ⟨_, rfl, _, rfl, _, rfl, _, _, rfl, rfl, t, a, ns, N + 1, M + 1, rfl, J1, by omega, by omega, Nat.lt_of_le_of_lt (show (M + 1).natAbs ≤ 1000 by omega) (by decide +kernel), fun m H2 h20 h21 b2 J2 => ?_⟩
    refine ⟨m, rfl, by omega, by omega, comp_range (lo := 0) (n := m.toNat) (fun σ => ∃ v, σ = [v, some (.int (1 + r)), some (.ref t)]) (fun i zs H3 => ∃ ws : List (List Int), ws.length = i ∧ (∀ l ∈ ws, isWork (1 + r) (workD l) = true) ∧ DenAll K H3 (ws.map workD) zs ∧ But t H H3 ∧ Jar K H3 t a ns (N + 2 + 8 * i)) (size1 (by omega)) ⟨none, rfl⟩ ⟨[], rfl, fun _ h => (List.not_mem_nil h).elim, denAll_nil.mpr rfl, b1.trans b2, J2⟩ ?_ ?_ ?_⟩
    · rintro i zs H3 ⟨ws, hl, _, hd, _⟩
      rw [denAll_length hd, List.length_map, hl]
      exact Nat.le_refl _
    · rintro i zs σ H3 hi ⟨v, rfl⟩ ⟨ws, hl, hw, hd, b3, J3⟩ hz
      refine nameAll_go ?_
      refine ⟨_, rfl, _, rfl, t, a, ns, _, 1 + r, rfl, J3, by omega, by omega, by omega, fun l p H4 hwk b4 J4 hp4 => ?_⟩
      refine ⟨hz, ⟨_, rfl⟩, ws ++ [l], by rw [List.length_append, hl]; rfl, fun l2 hl2 => ?_, ?_, b3.trans b4, J4.more (by omega)⟩
      · rcases List.mem_append.mp hl2 with h | h
        · exact hw l2 h
        · rw [List.mem_singleton.mp h]; exact hwk
      · rw [List.map_append]
        exact denAll_append (J3.denAll b4 (noLists_map _ noList_work ws) hd) (denAll_cons.mpr ⟨_, _, rfl, den_tints.mpr ⟨p, rfl, hp4⟩, denAll_nil.mpr rfl⟩)
    · rintro zs H3 ⟨ws, hl, hw, hd, b3, J3⟩ z hz
      refine ⟨z, _, rfl, .inl ⟨SqL.of upd_same, fun q hq => ⟨sz2 _ _, fun p hp => ?_⟩⟩⟩
      have sm := (Same.new (o := .lst zs) hz).trans ((Same.new (o := .tup zs) hq).trans (Same.new (o := .tup [.int (1 + r), .ref q]) hp))
      have eq : upd (upd (upd H3 z (.lst zs)) q (.tup zs)) p (.tup [.int (1 + r), .ref q]) q = some (.tup zs) := (Same.new hp) _ _ upd_same
      refine k (1 + r) ws p _ (book_of (by omega) (by omega) (by omega) hw) (b3.trans (But.of sm)) ((J3.same sm).more (by omega)) ?_
      exact den_tuple.mpr ⟨p, _, rfl, SqT.of upd_same, denAll_cons.mpr ⟨_, _, rfl, den_int.mpr rfl, denAll_cons.mpr ⟨_, _, rfl, den_tuple.mpr ⟨q, zs, rfl, SqT.of eq, sm.denAll _ _ hd⟩, denAll_nil.mpr rfl⟩⟩⟩
end
end Ab
set_option Elab.async false
set_option linter.all false
set_option maxRecDepth 100000
namespace Ab
open PySem L2
def jn (s : List Nat) : List (List Nat) → List Nat
  | [] => []
  | [p] => p
  | p :: q :: r => p ++ s ++ jn s (q :: r)
theorem app_list (x y : Str) : (x ++ y).cps.toList = x.cps.toList ++ y.cps.toList := by
  show (x.cps ++ y.cps).toList = _
  simp
theorem join_list (sep : Str) : ∀ ps : List Str, (sep.join ps).cps.toList = jn sep.cps.toList (ps.map (·.cps.toList))
  | [] => rfl
  | [p] => rfl
  | p :: q :: r => by
    have ih := join_list sep (q :: r)
    show (p ++ sep ++ sep.join (q :: r)).cps.toList = _
    rw [app_list, app_list, ih]
    rfl
theorem str_ext {x y : Str} (h : x.cps.toList = y.cps.toList) : x = y := by
  cases x with
  | mk a =>
    cases y with
    | mk b => exact congrArg Str.mk (Array.toList_inj.mp h)
theorem take_pre (p r : List Nat) (n : Nat) (h : n = p.length) : (p ++ r).take n = p := by
  subst h
  simp
theorem at_here {x sep : Str} {a : Nat} {p r : List Nat} (hs : 1 ≤ sep.length) (h : x.cps.toList.drop a = p ++ sep.cps.toList ++ r) : StrLaws.At x sep x.length (a + p.length) := by
  have hl : (x.cps.toList.drop a).length = p.length + sep.length + r.length := by rw [h, List.length_append, List.length_append, Array.length_toList]; rfl
  have hx : x.cps.toList.length = x.length := Array.length_toList
  rw [List.length_drop] at hl
  · refine ⟨by omega, ?_⟩
    rw [StrLaws.subAt_eq, ← List.drop_drop, h, List.append_assoc, List.drop_left, take_pre _ _ _ (by show sep.cps.size = _; exact Array.length_toList.symm)]
    exact beq_self_eq_true _
theorem at_char {x sep : Str} {k c : Nat} {s' : List Nat} (hs : sep.cps.toList = c :: s') (h : StrLaws.At x sep x.length k) : x.cps.toList[k]? = some c := by
  have h2 := h.2
  rw [StrLaws.subAt_eq, hs] at h2
  have h3 := eq_of_beq h2
  have h4 : ((x.cps.toList.drop k).take sep.length)[0]? = some c := by rw [h3]; rfl
  rw [List.getElem?_take] at h4
  split at h4
  · rw [List.getElem?_drop] at h4
    exact h4
  · cases h4
theorem parts_back {x sep : Str} {c : Nat} {s' : List Nat} (hs : sep.cps.toList = c :: s') : ∀ (ps : List Str) (a f : Nat) (cuts : List Nat), ps ≠ [] → (∀ p ∈ ps, c ∉ p.cps.toList) → x.cps.toList.drop a = jn sep.cps.toList (ps.map (·.cps.toList)) → a ≤ x.length →
    StrLaws.ChainG x sep x.length a cuts f → (∀ k, f ≤ k → ¬ StrLaws.At x sep x.length k) → StrLaws.partsFrom x sep.length a cuts = ps
  | [], _, _, _, h, _, _, _, _, _ => absurd rfl h
  | [p], a, f, cuts, _, hc, hx, ha, hch, hno => by
    have hx' : x.cps.toList.drop a = p.cps.toList := hx
    have no : ∀ k, a ≤ k → ¬ StrLaws.At x sep x.length k := fun k hk hat => by
      have h1 := at_char hs hat
      have h2 : (x.cps.toList.drop a)[k - a]? = some c := by rw [List.getElem?_drop, show a + (k - a) = k by omega]; exact h1
      rw [hx'] at h2
      exact hc p (List.mem_singleton_self _) (List.mem_of_getElem? h2)
    cases cuts with
    | nil =>
      show [Builtin.Str.strSub x a x.length] = [p]
      congr 1
      refine str_ext ?_
      rw [StrLaws.strSub_toList, hx']
      refine List.take_of_length_le ?_
      have : (x.cps.toList.drop a).length = x.length - a := by rw [List.length_drop, Array.length_toList]; rfl
      rw [hx'] at this
      omega
    | cons k cs => exact absurd hch.2.1 (no k hch.1)
  | p :: q :: r, a, f, cuts, _, hc, hx, ha, hch, hno => by
    have hx' : x.cps.toList.drop a = p.cps.toList ++ sep.cps.toList ++ jn sep.cps.toList ((q :: r).map (·.cps.toList)) := hx
    have here := at_here (sep := sep) (by have : sep.cps.toList.length = sep.length := Array.length_toList; rw [hs] at this; simp at this; omega) hx'
    have hpl : p.cps.toList.length = p.length := Array.length_toList
    have no : ∀ k, a ≤ k → k < a + p.length → ¬ StrLaws.At x sep x.length k := fun k hk hk2 hat => by
      have h1 := at_char hs hat
      have h2 : (x.cps.toList.drop a)[k - a]? = some c := by rw [List.getElem?_drop, show a + (k - a) = k by omega]; exact h1
      rw [hx', List.append_assoc, List.getElem?_append_left (by omega)] at h2
      exact hc p (List.mem_cons_self ..) (List.mem_of_getElem? h2)
    rw [hpl] at here
    cases cuts with
    | nil =>
      have e : f = a := hch
      exact absurd here (hno _ (by omega))
    | cons k cs =>
      obtain ⟨h1, h2, h3, h4⟩ := hch
      have ek : k = a + p.length := by
        rcases Nat.lt_trichotomy k (a + p.length) with h | h | h
        · exact absurd h2 (no k h1 h)
        · exact h
        · exact absurd here (h3 _ (by omega) h)
      subst ek
      have hlen : (x.cps.toList.drop a).length = x.length - a := by rw [List.length_drop, Array.length_toList]; rfl
      have hsl : sep.cps.toList.length = sep.length := Array.length_toList
      have ih := parts_back hs (q :: r) (a + p.length + sep.length) f cs (by simp) (fun p' hp' => hc p' (List.mem_cons_of_mem _ hp')) (by
        rw [show a + p.length + sep.length = a + (p.length + sep.length) by omega, ← List.drop_drop, hx']
        rw [show p.length + sep.length = (p.cps.toList ++ sep.cps.toList).length by rw [List.length_append, hpl, hsl]]
        exact List.drop_left) h2.1 h4 hno
      show Builtin.Str.strSub x a (a + p.length) :: StrLaws.partsFrom x sep.length (a + p.length + sep.length) cs = p :: q :: r
      rw [ih]
      congr 1
      refine str_ext ?_
      rw [StrLaws.strSub_toList, hx', List.append_assoc]
      exact take_pre _ _ _ (by omega)
theorem split_join {sep : Str} {c : Nat} {s' : List Nat} (hs : sep.cps.toList = c :: s') (hk : Builtin.Str.strKind sep = 1) {ps : List Str} (h0 : ps ≠ []) (hc : ∀ p ∈ ps, c ∉ p.cps.toList) : Txt.split (sep.join ps) sep = ps := by
  have hx : (sep.join ps).cps.toList = jn sep.cps.toList (ps.map (·.cps.toList)) := join_list sep ps
  generalize sep.join ps = x at hx
  have hsl : 1 ≤ sep.length := by have : sep.cps.toList.length = sep.length := Array.length_toList; rw [hs] at this; simp at this; omega
  obtain ⟨f, hch, hno⟩ := StrLaws.occ_tight x sep hsl
  have back := parts_back hs ps 0 f _ h0 hc (by rw [List.drop_zero]; exact hx) (Nat.zero_le _) hch hno
  have one : (Builtin.Str.occurrences x sep 0 x.length (x.length + 1)) = [] → ps = [x] := fun e => by
    rw [e] at back
    rw [← back]
    show [Builtin.Str.strSub x 0 x.length] = [x]
    rw [show Builtin.Str.strSub x 0 x.length = x from str_ext (by rw [StrLaws.strSub_toList, List.drop_zero]; exact List.take_of_length_le (by rw [Array.length_toList]; exact Nat.le_refl _))]
  have kx : ¬ Builtin.Str.strKind x < Builtin.Str.strKind sep := by
    rw [hk]
    unfold Builtin.Str.strKind
    split
    · omega
    · split <;> omega
  unfold Txt.split
  by_cases h1 : x.length < sep.length
  · rw [decide_eq_true h1, Bool.true_or, if_pos rfl]
    refine (one ?_).symm
    cases e : Builtin.Str.occurrences x sep 0 x.length (x.length + 1) with
    | nil => rfl
    | cons k cs =>
      have := (StrLaws.occ_spec x sep 0 x.length (x.length + 1) k (by rw [e]; exact List.mem_cons_self ..)).1
      omega
  · rw [decide_eq_false h1, Bool.false_or, decide_eq_false kx]
    rw [if_neg (by decide)]
    cases e : Builtin.Str.occurrences x sep 0 x.length (x.length + 1) with
    | nil => exact (one e).symm
    | cons k cs =>
      rw [if_neg (by simp), StrLaws.partsBetween_eq, ← e]
      exact back
end Ab
set_option Elab.async false
set_option linter.all false
set_option maxRecDepth 100000
namespace L2
open PySem PySem.Spec PyProof.Rows
theorem pe_bmK {X : Cx} {K : PySem.W.Frag} {o e : Expr} {es : List Expr} {to : TE} {t : TA} {name : Str} {apos cpos : Pos} {T id : String} {r : V → List V → Hp → VK → Prop} (hK : X.K = K) (pa : PlainAttrs T) (slot : Slot T name id) (hty : typeOf (.builtin id) = pure (.type "method_descriptor")) (hm : MtR X id r) (ho : PE X o to) (ha : PA X (e :: es) t)
    (hbase : attributeBase o name X.env (eval o X.env) = eval o X.env := by rfl)
    (hfew : ((backTo cpos (starEach (e :: es) X.env)).all (fun x => !x.1) && (backToKw cpos (keywordEach [] X.env)).all (fun x => x.1.isSome)
      && decide ((e :: es).length + ([] : List Keyword).length + (if ([] : List Keyword).isEmpty then 0 else 1) < 30)) = true := by rfl)
    (hline : (apos.endLine == cpos.line) = true := by rfl) (hs : starEach (e :: es) X.env = (false, eval e X.env) :: starEach es X.env := by rfl) (hplain : (backTo cpos (starEach es X.env)).any (·.1) = false := by rfl) :
    PE X (.Call (.Attribute o name apos) (e :: es) [] cpos) (tBM K T r to t) := by
  subst hK
  exact pe_bm pa slot hty hm ho ha hbase hfew hline hs hplain
theorem b_str : bootBuiltins "str" = some (.type "str") := by decide +kernel
section
variable {X : Cx}
theorem call_isi_strV : CallR X (.builtin "isinstance") (fun xs H Q => ∃ y : Str, xs = [.str y, .ty "str"] ∧ Q (.bl true) H) := by
  intro pins s σ H xs us Q I r h
  obtain ⟨y, rfl, q⟩ := h
  obtain ⟨u, t, rfl, rx, rt⟩ := vals2 r
  cases rt
  obtain ⟨t, rfl⟩ := rx
  exact IsiPair.str_str ⟨.bl true, H, I, rfl, q⟩
end
end L2
namespace Ab
open PySem L2
def numS (i : Int) : Str := Str.ofString (toString i)
def workT (l : List Int) : Str := (" " : Str).join (l.map numS)
def bookT (n : Int) (ws : List (List Int)) : Str := ("; " : Str).join ((("hands " : Str) ++ numS n) :: ws.map workT)
theorem numS_eq {i : Int} (h0 : 0 ≤ i) (h6 : i ≤ 6) : numS i = ⟨#[48 + i.toNat]⟩ := by
  have h : i = 0 ∨ i = 1 ∨ i = 2 ∨ i = 3 ∨ i = 4 ∨ i = 5 ∨ i = 6 := by omega
  rcases h with rfl | rfl | rfl | rfl | rfl | rfl | rfl <;> decide +kernel
theorem numS_len {i : Int} (h0 : 0 ≤ i) (h6 : i ≤ 6) : (numS i).length = 1 := by rw [numS_eq h0 h6]; rfl
theorem nums_fit {l : List Int} (h : ∀ i ∈ l, 0 ≤ i ∧ i ≤ 6) (hl : l.length ≤ 6) : JoinOk (" " : Str) (l.map numS) = true := by
  unfold JoinOk
  rw [StrLaws.joinFits (B := 1) (fun y hy => by obtain ⟨i, hi, rfl⟩ := List.mem_map.mp hy; rw [numS_len (h i hi).1 (h i hi).2]; exact Nat.le_refl _) (by rw [List.length_map]; show _ * 1 + _ * 1 ≤ _; omega)]
  rfl
theorem sum_le {α : Type} (f : α → Nat) (B : Nat) : ∀ l : List α, (∀ x ∈ l, f x ≤ B) → (l.map f).sum ≤ l.length * B
  | [], _ => by simp
  | x :: l, h => by
    have h1 := h x (List.mem_cons_self ..)
    have h2 := sum_le f B l fun y hy => h y (List.mem_cons_of_mem _ hy)
    rw [List.map_cons, List.sum_cons, List.length_cons, Nat.add_mul]
    omega
theorem workT_len {l : List Int} (h : ∀ i ∈ l, 0 ≤ i ∧ i ≤ 6) (hl : l.length ≤ 6) : (workT l).length ≤ 12 := by
  have h1 := StrLaws.join_length_le (" " : Str) (l.map numS)
  have h2 := sum_le (fun x : Str => x.length) 1 (l.map numS) fun y hy => by obtain ⟨i, hi, rfl⟩ := List.mem_map.mp hy; rw [numS_len (h i hi).1 (h i hi).2]; exact Nat.le_refl _
  rw [List.length_map] at h1 h2
  have h3 : (" " : Str).length = 1 := by decide +kernel
  rw [h3] at h1
  unfold workT
  omega
theorem work_six {n : Int} {l : List Int} (hn : n ≤ 6) (h : isWork n (workD l) = true) : (∀ i ∈ l, 0 ≤ i ∧ i ≤ 6) ∧ l.length ≤ 6 ∧ l ≠ [] := by
  obtain ⟨h1, h2, h3⟩ := work_parts h
  refine ⟨fun i hi => by have := h2 i hi; omega, ?_, h1⟩
  by_cases hz : 0 ≤ n
  · have := work_short hz h2 h3
    omega
  · cases l with
    | nil => exact absurd rfl h1
    | cons x r => have := h2 x (List.mem_cons_self ..); omega
def rowsT (n : Int) (ws : List (List Int)) : List Str := (("hands " : Str) ++ numS n) :: ws.map workT
theorem head_len {n : Int} (h1 : 1 ≤ n) (h6 : n ≤ 6) : (("hands " : Str) ++ numS n).length = 7 := by
  have h : n = 1 ∨ n = 2 ∨ n = 3 ∨ n = 4 ∨ n = 5 ∨ n = 6 := by omega
  rcases h with rfl | rfl | rfl | rfl | rfl | rfl <;> decide +kernel
theorem rowsT_len {n : Int} {ws : List (List Int)} (hb : isBook (bookD n ws) = true) : (∀ y ∈ rowsT n ws, y.length ≤ 12) ∧ (rowsT n ws).length ≤ 13 := by
  obtain ⟨hn1, hn6, hw, hws⟩ := book_parts hb
  refine ⟨fun y hy => ?_, ?_⟩
  · rcases List.mem_cons.mp hy with rfl | hy
    · rw [head_len hn1 hn6]; decide
    · obtain ⟨l, hl, rfl⟩ := List.mem_map.mp hy
      obtain ⟨a, b, _⟩ := work_six hn6 (hws l hl)
      exact workT_len a b
  · show (ws.map workT).length + 1 ≤ 13
    rw [List.length_map]; omega
theorem bookT_len {n : Int} {ws : List (List Int)} (hb : isBook (bookD n ws) = true) : (bookT n ws).length ≤ 200 := by
  obtain ⟨h1, h2⟩ := rowsT_len hb
  have h3 := StrLaws.join_length_le ("; " : Str) (rowsT n ws)
  have h4 := sum_le (fun x : Str => x.length) 12 (rowsT n ws) h1
  have h5 : ("; " : Str).length = 2 := by decide +kernel
  rw [h5] at h3
  show (("; " : Str).join (rowsT n ws)).length ≤ 200
  omega
section
variable {P : Program} {w : World} {K : PySem.W.Frag} {mg : Str → Option Value} {base : Heap}
variable {fW fH fK fB fNB : Addr} {dW dH dK dB dNB : FuncData}
theorem small_num {i : Int} (h0 : 0 ≤ i) (h6 : i ≤ 6) : i.natAbs.log2 < 1920 := by
  have h : i = 0 ∨ i = 1 ∨ i = 2 ∨ i = 3 ∨ i = 4 ∨ i = 5 ∨ i = 6 := by omega
  rcases h with rfl | rfl | rfl | rfl | rfl | rfl | rfl <;> decide +kernel
theorem app_len (x y : Str) : (x ++ y).length = x.length + y.length := by
  show (x.cps ++ y.cps).size = _
  rw [Array.size_append]
  rfl
theorem bookT_add (n : Int) (ws : List (List Int)) : ∀ i, i ≤ ws.length → bookT n (ws.take i) = (ws.take i).foldl (fun a l => a ++ "; " ++ workT l) (("hands " : Str) ++ numS n) := by
  intro i _
  show ("; " : Str).join (rowsT n (ws.take i)) = _
  rw [← StrLaws.glued_eq_join]
  generalize ws.take i = us
  refine str_ext ?_
  show (List.foldl (fun acc (p : Str) => acc ++ ("; " : Str).cps ++ p.cps) (("hands " : Str) ++ numS n).cps (us.map workT)).toList = _
  generalize (("hands " : Str) ++ numS n) = h
  induction us generalizing h with
  | nil => rfl
  | cons l r ih =>
    rw [List.map_cons, List.foldl_cons, List.foldl_cons]
    exact ih (h ++ "; " ++ workT l)
def spText (K : PySem.W.Frag) : Sp := fun vs H Q _ => ∃ (x : V) (n : Int) (ws : List (List Int)), vs = [x] ∧ Den K H (bookD n ws) x ∧ isBook (bookD n ws) = true ∧ ∀ H', Same H H' → Q (.str (bookT n ws)) H'
theorem scText : FnScope ["book", "found", "work"] ["book"] (defScope sText) := ⟨rfl, rfl, rfl, by decide +kernel, rfl, by decide +kernel, by decide +kernel⟩
set_option maxHeartbeats 1000000 in
theorem ok_text {f : Addr} {fd : FuncData} (G : Fn K mg "_law_e_text" sText ["book"] f fd) (B : Bl mg) : FnOk P w K mg base CX0 1 f fd ["book"] (spText K) := by
  refine G.fn.ok scText (fun vs H Q E h => ?_) (fun cdv A outer s H vs Q E hr h => ?_)
  · obtain ⟨x, n, ws, rfl, _⟩ := h
    rfl
  · obtain ⟨x, n, ws, rfl, hx, hb, k⟩ := h
    refine ⟨_, (pss_cons (ps_set (i := 1) scText.nd rfl (Or.inl rfl) (pe_op op_add_str pe_str (pe_callTy call_str_int rfl B.str b_str (pa_cons (pe_ix ix_tup (pv 0) pe_int (fun _ _ => rfl)) pa_nil))))
    (pss_cons (ps_for PassesOwn.never rfl (pi_tup (pe_ix ix_tup (pv 0) pe_int (fun _ _ => rfl))) (pg_name (i := 2) scText.nd rfl (Or.inl rfl))
      (pss_one (ps_set (i := 1) scText.nd rfl (Or.inl rfl) (pe_op op_add_str (pe_op op_add_str (pv 1) pe_str) (pe_bmK (K := K) rfl PySem.F.plainAttrs_str PySem.F.slot_str_join PySem.F.type_str_join (mt_join (K := K) rfl) pe_str (pa_cons (pe_comp (own := ["hand"]) (fr := []) (frn := []) (compOk_of (defScope sText) ["book", "found", "work"] rfl rfl (by decide +kernel)) rfl (pi_tup (pv 2))
        (fun _ _ _ _ => (pg_name (i := 0) (show (["hand"] : List Str).Nodup by decide +kernel) rfl (Or.inl rfl))) (fun _ _ _ _ => pf_nil)
        (fun _ _ _ _ => (pe_callTy call_str_int rfl B.str b_str (pa_cons (pv 0) pa_nil)))) pa_nil))))))
    (pss_one (ps_ret (pv 1))))), ?_⟩
    obtain ⟨hn1, hn6, hw12, hws⟩ := book_parts hb
    obtain ⟨ba, bb, ys, rfl, ha, hb2, hys⟩ := den_book hx
    have hlw := denAll_length hys
    rw [List.length_map] at hlw
    have lens : ∀ i, i ≤ ws.length → (bookT n (ws.take i)).length ≤ 200 := fun i hi => bookT_len (book_of hn1 hn6 (by rw [List.length_take]; omega) fun l hl => hws l (List.mem_of_mem_take hl))
    have hh := head_len hn1 hn6
    refine ⟨_, rfl, ba, _, 0, .int n, rfl, rfl, ha, rfl, n, rfl, small_num (by omega) hn6, _, _, rfl, rfl, ?_, ?_⟩
    · rw [sizeLine_eq]
      show ("hands " : Str).length + (numS n).length ≤ _
      rw [numS_len (by omega) hn6]
      decide +kernel
    refine ⟨_, rfl, ba, _, 1, .ref bb, rfl, rfl, ha, rfl, bb, rfl, ⟨_, hb2⟩, for_tup (K := K) (a := bb) (xs := ys) (fun i σ H1 => ∃ v2, σ = [some (.ref ba), some (.str (bookT n (ws.take i))), v2] ∧ Same H H1) ⟨_, rfl, Same.refl _⟩ (fun i σ H1 _ ⟨_, _, s1⟩ => s1.seqT hb2) ?_ ?_⟩
    · rintro j xv σ H1 hxv ⟨v2, rfl, s1⟩
      obtain ⟨dv, hdv, denv⟩ := denAll_at hys hxv
      rw [List.getElem?_map] at hdv
      cases q : ws[j]? with
      | none => rw [q] at hdv; cases hdv
      | some l =>
        rw [q] at hdv
        obtain rfl : workD l = dv := Option.some.inj hdv
        obtain ⟨pw, rfl, hpw⟩ := den_tints.mp denv
        have hj : j < ws.length := (List.getElem?_eq_some_iff.mp q).1
        obtain ⟨l1, l2, l3⟩ := work_six hn6 (hws l (List.mem_of_getElem? q))
        have n1 := lens j (by omega)
        have n2 := workT_len l1 l2
        have e2 : bookT n (ws.take (j + 1)) = bookT n (ws.take j) ++ "; " ++ workT l := by
          rw [bookT_add n ws (j + 1) (by omega), bookT_add n ws j (by omega), List.take_succ, q, List.foldl_append]
          rfl
        refine ⟨_, rfl, _, _, rfl, rfl, size1 (show (bookT n (ws.take j)).length + 2 ≤ 1000 by omega), rfl, _, rfl, pw, rfl, ⟨_, s1.seqT hpw⟩, comp_fnT (K := K) (a := pw) (xs := l.map V.int) (vs := (l.map numS).map V.str) (fun σ => ∃ v, σ = [v]) (by rw [List.length_map]; omega) (by rw [List.length_map, List.length_map, List.length_map]) (s1.seqT hpw) ⟨none, rfl⟩ ?_ ?_⟩
        · rintro m xv v σ H3 hxv hv ⟨v0, rfl⟩ s3 Q2 hQ2
          rw [List.getElem?_map] at hxv hv
          rw [List.getElem?_map] at hv
          cases q2 : l[m]? with
          | none => rw [q2] at hxv; cases hxv
          | some i =>
            rw [q2] at hxv hv
            obtain rfl : V.int i = xv := Option.some.inj hxv
            obtain rfl : V.str (numS i) = v := Option.some.inj hv
            have hi := l1 i (List.mem_of_getElem? q2)
            exact ⟨_, rfl, i, rfl, small_num hi.1 hi.2, hQ2 _ _ ⟨_, rfl⟩ (Same.refl _)⟩
        · rintro H3 s3 z hz
          refine ⟨_, z, _, rfl, rfl, SqL.of upd_same, nums_fit l1 l2, _, _, rfl, rfl, ?_, ?_⟩
          · refine size1 ?_
            show (bookT n (ws.take j) ++ "; ").length + (workT l).length ≤ 1000
            have : (bookT n (ws.take j) ++ "; " : Str).length = (bookT n (ws.take j)).length + 2 := by
              show ((bookT n (ws.take j)).cps ++ ("; " : Str).cps).size = _
              rw [Array.size_append]
              rfl
            omega
          · refine ⟨some (.ref pw), ?_, s1.trans (s3.trans (Same.new hz))⟩
            rw [e2]
            rfl
    · rintro σ H1 ⟨v2, rfl, s1⟩
      rw [hlw, List.take_length]
      exact ⟨_, rfl, k _ s1⟩
end
end Ab
set_option Elab.async false
set_option linter.all false
set_option maxRecDepth 100000
namespace Ab
open PySem L2
theorem len_list (x : Str) : x.cps.toList.length = x.length := Array.length_toList
theorem at_list {x sep : Str} {k : Nat} (h : StrLaws.At x sep x.length k) : x.cps.toList.drop k = sep.cps.toList ++ x.cps.toList.drop (k + sep.length) := by
  have h2 := h.2
  rw [StrLaws.subAt_eq] at h2
  have h3 := eq_of_beq h2
  rw [← List.drop_drop]
  conv => lhs; rw [← List.take_append_drop sep.length (x.cps.toList.drop k), h3]
theorem jn_cons {s p : List Nat} {ps : List (List Nat)} (h : ps ≠ []) : jn s (p :: ps) = p ++ s ++ jn s ps := by
  cases ps with
  | nil => exact absurd rfl h
  | cons q r => rfl
theorem parts_fwd {x sep : Str} (hs : 1 ≤ sep.length) : ∀ (cuts : List Nat) (a f : Nat), a ≤ x.length → StrLaws.ChainG x sep x.length a cuts f → (∀ k, f ≤ k → ¬ StrLaws.At x sep x.length k) →
    jn sep.cps.toList ((StrLaws.partsFrom x sep.length a cuts).map (·.cps.toList)) = x.cps.toList.drop a ∧ ∀ p ∈ StrLaws.partsFrom x sep.length a cuts, ¬ sep.cps.toList <:+: p.cps.toList
  | [], a, f, ha, hch, hno => by
    have e : f = a := hch
    have ep : (Builtin.Str.strSub x a x.length).cps.toList = x.cps.toList.drop a := by
      rw [StrLaws.strSub_toList]
      exact List.take_of_length_le (by rw [List.length_drop, len_list]; exact Nat.le_refl _)
    refine ⟨ep, fun p hp => ?_⟩
    obtain rfl := List.mem_singleton.mp hp
    rw [ep]
    rintro ⟨u, v, e2⟩
    exact hno _ (by omega) (at_here hs e2.symm)
  | k :: cs, a, f, ha, hch, hno => by
    obtain ⟨h1, h2, h3, h4⟩ := hch
    have h2' := h2.1
    obtain ⟨i1, i2⟩ := parts_fwd hs cs (k + sep.length) f h2' h4 hno
    have ep : (Builtin.Str.strSub x a k).cps.toList = (x.cps.toList.drop a).take (k - a) := StrLaws.strSub_toList ..
    have ed : (x.cps.toList.drop a).drop (k - a) = x.cps.toList.drop k := by rw [List.drop_drop, show a + (k - a) = k by omega]
    refine ⟨?_, fun p hp => ?_⟩
    · show jn _ ((Builtin.Str.strSub x a k).cps.toList :: (StrLaws.partsFrom x sep.length (k + sep.length) cs).map (·.cps.toList)) = _
      rw [jn_cons (by cases cs <;> simp [StrLaws.partsFrom]), i1, ep, List.append_assoc, ← at_list h2, ← ed, List.take_append_drop]
    · rcases List.mem_cons.mp (show p ∈ Builtin.Str.strSub x a k :: StrLaws.partsFrom x sep.length (k + sep.length) cs from hp) with rfl | hp
      · rw [ep]
        rintro ⟨u, v, e2⟩
        have hl : (u ++ sep.cps.toList ++ v).length ≤ k - a := by rw [e2, List.length_take]; exact Nat.min_le_left _ _
        rw [List.length_append, List.length_append, len_list] at hl
        have e3 : x.cps.toList.drop a = u ++ sep.cps.toList ++ (v ++ (x.cps.toList.drop a).drop (k - a)) := by
          rw [← List.append_assoc, e2, List.take_append_drop]
        exact h3 _ (by omega) (by omega) (at_here hs e3)
      · exact i2 p hp
theorem split_is {x sep : Str} (hk : Builtin.Str.strKind sep = 1) (hs : 1 ≤ sep.length) : Txt.split x sep ≠ [] ∧ jn sep.cps.toList ((Txt.split x sep).map (·.cps.toList)) = x.cps.toList ∧ ∀ p ∈ Txt.split x sep, ¬ sep.cps.toList <:+: p.cps.toList := by
  obtain ⟨f, hch, hno⟩ := StrLaws.occ_tight x sep hs
  obtain ⟨i1, i2⟩ := parts_fwd hs _ 0 f (Nat.zero_le _) hch hno
  rw [List.drop_zero] at i1
  have one : (Builtin.Str.occurrences x sep 0 x.length (x.length + 1)) = [] → StrLaws.partsFrom x sep.length 0 (Builtin.Str.occurrences x sep 0 x.length (x.length + 1)) = [x] := fun e => by
    rw [e]
    show [Builtin.Str.strSub x 0 x.length] = [x]
    rw [show Builtin.Str.strSub x 0 x.length = x from str_ext (by rw [StrLaws.strSub_toList, List.drop_zero]; exact List.take_of_length_le (by rw [Array.length_toList]; exact Nat.le_refl _))]
  have e : Txt.split x sep = StrLaws.partsFrom x sep.length 0 (Builtin.Str.occurrences x sep 0 x.length (x.length + 1)) := by
    have kx : ¬ Builtin.Str.strKind x < Builtin.Str.strKind sep := by
      rw [hk]
      unfold Builtin.Str.strKind
      split
      · omega
      · split <;> omega
    unfold Txt.split
    by_cases h1 : x.length < sep.length
    · rw [decide_eq_true h1, Bool.true_or, if_pos rfl]
      refine (one ?_).symm
      cases e : Builtin.Str.occurrences x sep 0 x.length (x.length + 1) with
      | nil => rfl
      | cons k cs =>
        have := (StrLaws.occ_spec x sep 0 x.length (x.length + 1) k (by rw [e]; exact List.mem_cons_self ..)).1
        omega
    · rw [decide_eq_false h1, Bool.false_or, decide_eq_false kx]
      rw [if_neg (by decide)]
      cases e : Builtin.Str.occurrences x sep 0 x.length (x.length + 1) with
      | nil => have h := one e; rw [e] at h; exact h.symm
      | cons k cs => rw [if_neg (by simp), StrLaws.partsBetween_eq, ← e]
  rw [e]
  refine ⟨?_, i1, i2⟩
  generalize Builtin.Str.occurrences x sep 0 x.length (x.length + 1) = cuts
  cases cuts <;> simp [StrLaws.partsFrom]
theorem infix_jn {s : List Nat} {p : List Nat} : ∀ {ps : List (List Nat)}, p ∈ ps → p <:+: jn s ps
  | [q], h => by rw [List.mem_singleton.mp h]; exact List.infix_refl _
  | q :: r :: ps, h => by
    rcases List.mem_cons.mp h with rfl | h
    · exact ⟨[], s ++ jn s (r :: ps), by show [] ++ p ++ _ = p ++ s ++ _; simp⟩
    · exact (infix_jn h).trans ⟨q ++ s, [], by show q ++ s ++ _ ++ [] = _; rw [List.append_nil]; rfl⟩
theorem split_inf {x sep p : Str} (hk : Builtin.Str.strKind sep = 1) (hs : 1 ≤ sep.length) (hp : p ∈ Txt.split x sep) : p.cps.toList <:+: x.cps.toList := by
  rw [← (split_is (x := x) hk hs).2.1]
  exact infix_jn (List.mem_map_of_mem hp)
def Win (k : Nat) (t : List Nat) : Prop := ∀ w, w <:+: t → ¬ [59, 32] <:+: w → w.count 32 ≤ k
theorem Win.few {k : Nat} {t : List Nat} (h : t.count 32 ≤ k) : Win k t := fun w hw _ => Nat.le_trans (hw.sublist.count_le _) h
theorem Win.inf {k : Nat} {t u : List Nat} (h : Win k t) (e : u <:+: t) : Win k u := fun w hw hn => h w (hw.trans e) hn
theorem Win.mono {k l : Nat} {t : List Nat} (h : Win k t) (e : k ≤ l) : Win l t := fun w hw hn => Nat.le_trans (h w hw hn) e
theorem infix_app {w x y : List Nat} (h : w <:+: x ++ y) : w <:+: x ∨ w <:+: y ∨ ∃ u v, w = u ++ v ∧ u <:+ x ∧ v <+: y := by
  obtain ⟨s, t, e⟩ := h
  rcases List.append_eq_append_iff.mp e with ⟨a, e1, e2⟩ | ⟨c, e1, e2⟩
  · exact .inl ⟨s, a, e1.symm⟩
  · rcases List.append_eq_append_iff.mp e1 with ⟨a, e3, e4⟩ | ⟨c', e3, e4⟩
    · exact .inr (.inr ⟨a, c, e4, ⟨s, e3.symm⟩, ⟨t, e2.symm⟩⟩)
    · exact .inr (.inl ⟨c', t, by rw [e2, e4]⟩)
theorem Win.app {k l : Nat} {x y : List Nat} (h : Win k x) (g : Win l y) : Win (k + l) (x ++ y) := fun w hw hn => by
  rcases infix_app hw with hw | hw | ⟨u, v, rfl, hu, hv⟩
  · exact Nat.le_trans (h w hw hn) (Nat.le_add_right _ _)
  · exact Nat.le_trans (g w hw hn) (Nat.le_add_left _ _)
  · rw [List.count_append]
    exact Nat.add_le_add (h u hu.isInfix fun z => hn (z.trans ⟨[], v, rfl⟩)) (g v hv.isInfix fun z => hn (z.trans ⟨u, [], by simp⟩))
theorem Win.sep {k : Nat} {x y : List Nat} (h : x.count 32 ≤ k) (g : Win k (32 :: y)) : Win k (x ++ [59] ++ 32 :: y) := fun w hw hn => by
  rcases infix_app hw with hw | hw | ⟨u, v, rfl, ⟨a, ha⟩, ⟨b, hb⟩⟩
  · refine Nat.le_trans (hw.sublist.count_le _) ?_
    rw [List.count_append]
    exact h
  · exact g w hw hn
  · cases v with
    | nil =>
      rw [List.append_nil] at hn ⊢
      have hw : u <:+: x ++ [59] := ⟨a, [], by rw [List.append_nil]; exact ha⟩
      refine Nat.le_trans (hw.sublist.count_le _) ?_
      rw [List.count_append]
      exact h
    | cons c v =>
      have e1 : c = 32 := by have := congrArg List.head? hb; simpa using this
      subst e1
      rcases List.eq_nil_or_concat u with rfl | ⟨u', d, rfl⟩
      · exact g _ ⟨[], b, hb⟩ hn
      · have e2 : d = 59 := by
          have := congrArg List.getLast? ha
          simpa using this
        subst e2
        exact absurd ⟨u', v, by simp⟩ hn
theorem win_rows : ∀ (rs : List (List Nat)) (x : List Nat), x.count 32 ≤ 6 → (∀ r ∈ rs, r.count 32 ≤ 5) → Win 6 (jn [59, 32] (x :: rs))
  | [], x, hx, _ => Win.few hx
  | r :: rs, x, hx, hr => by
    have ih := win_rows rs (32 :: r) (by rw [List.count_cons_self]; have := hr r (List.mem_cons_self ..); omega) fun q hq => hr q (List.mem_cons_of_mem _ hq)
    have e : jn [59, 32] (x :: r :: rs) = x ++ [59] ++ 32 :: jn [59, 32] (r :: rs) := by
      show x ++ [59, 32] ++ jn _ (r :: rs) = _
      simp
    rw [e]
    refine Win.sep hx ?_
    have e2 : jn [59, 32] ((32 :: r) :: rs) = 32 :: jn [59, 32] (r :: rs) := by cases rs <;> rfl
    rw [← e2]
    exact ih
end Ab
set_option Elab.async false
set_option linter.all false
set_option maxRecDepth 100000
namespace Ab
open PySem L2
def dig (c : Nat) : Bool := decide (48 ≤ c) && decide (c ≤ 57)
def isNum (w : List Nat) : Bool := (decide (1 ≤ w.length) && decide (w.length ≤ 6)) && (!(decide (w.head? = some 48) && !decide (w = [48])) && w.all dig)
def numV (w : List Nat) : Int := (PySem.NumText.digitsVal w : Nat)
def Asc (w : Str) : Prop := w.cps.all (· < 128) = true
theorem Asc.lt {w : Str} (h : Asc w) {c : Nat} (hc : c ∈ w.cps.toList) : c < 128 := by
  have := Array.all_eq_true_iff_forall_mem.mp h c (by simpa using hc)
  simpa using this
theorem asc_of {w : Str} (h : ∀ c ∈ w.cps.toList, c < 128) : Asc w := Array.all_eq_true_iff_forall_mem.mpr fun c hc => by simpa using h c (by simpa using hc)
theorem fig_in {c : Nat} (h : c < 128) : (!(Builtin.Str.occurrences ("0123456789" : Str) ⟨#[c]⟩ 0 ("0123456789" : Str).length 1).isEmpty) = dig c := by
  have f0 : ∀ j : _root_.Fin 128, (!(Builtin.Str.occurrences ("0123456789" : Str) ⟨#[j.val]⟩ 0 ("0123456789" : Str).length 1).isEmpty) = dig j.val := by decide +kernel
  exact f0 ⟨c, h⟩
theorem figs_go {K : PySem.W.Frag} {w : Str} {σ : St} {H : Hp} {Q : VK} (hσ : σ[0]? = some (some (.str w))) (ha : Asc w) (hl : w.length ≤ 6) (k : ∀ H', Same H H' → Q (.bl (w.cps.toList.all dig)) H') :
    tCB (fun xs H_1 Q => ∃ p bs, xs = [V.ref p] ∧ SqL K H_1 p (List.map V.bl bs) ∧ Q (V.bl (bs.all id)) H_1) (tCons (tComp 1 [] (iStr (tVar 0)) (gName 0) tAll (tOp (fun x y H Q => ∃ i j, x = V.str i ∧ y = V.str j ∧ Q (V.bl !(Builtin.Str.occurrences j i 0 j.length 1).isEmpty) H) (tVar 0) (tC (V.str "0123456789")))) tNil) σ H Q := by
  have hsz : w.cps.size ≤ 6 := hl
  refine ⟨_, hσ, _, rfl, ha, comp_it (J := Its w) w.cps.size (size1 (by omega)) (fun σ => ∃ v, σ = [v]) (fun j ys H' => H' = H ∧ ys = (w.cps.toList.take j).map fun c => .bl (dig c)) ⟨none, rfl⟩ ⟨rfl, rfl⟩ (fun j ys H' h => by rw [h.2, List.length_map, List.length_take]; exact Nat.min_le_left _ _) (fun _ _ _ => rfl) (fun j _ _ hj _ => hj) ?_ ?_⟩
  · rintro j ys σ x H1 H2 hj ⟨v, rfl⟩ ⟨rfl, rfl⟩ hy hz
    obtain ⟨rfl, c, hc, rfl⟩ := hy
    refine nameAll_go ?_
    refine ⟨_, rfl, _, _, rfl, rfl, ?_⟩
    have hc' : w.cps.toList[j]? = some c := by rw [Array.getElem?_toList]; exact hc
    rw [fig_in (ha.lt (List.mem_of_getElem? hc'))]
    refine ⟨hz, ⟨_, rfl⟩, rfl, ?_⟩
    rw [List.take_succ, hc', List.map_append]
    rfl
  · rintro ys H1 ⟨rfl, rfl⟩ p hp
    have e : (w.cps.toList.take w.cps.size) = w.cps.toList := List.take_of_length_le (by rw [Array.length_toList]; exact Nat.le_refl _)
    rw [e]
    refine ⟨p, w.cps.toList.map dig, rfl, SqL.of (by rw [upd_same, List.map_map]; rfl), ?_⟩
    rw [List.all_map, show (id ∘ dig) = dig from rfl]
    exact k _ (Same.new hp)
section
variable {P : Program} {w : World} {K : PySem.W.Frag} {mg : Str → Option Value} {base : Heap}
def spNumber : Sp := fun vs H Q _ => ∃ y : Str, vs = [.str y] ∧ Asc y ∧ y.length ≤ 1000000 ∧ ∀ H', Same H H' → Q (.bl (isNum y.cps.toList)) H'
theorem scNumber : FnScope ["word"] ["word"] (defScope sNumber) := ⟨rfl, rfl, rfl, by decide +kernel, rfl, by decide +kernel, by decide +kernel⟩
theorem one_zero (c : Nat) : (V.str ⟨#[c]⟩ = V.str "0") ↔ c = 48 := by
  constructor
  · intro h
    injection h with h
    have h2 : (⟨#[c]⟩ : Str) = ⟨#[48]⟩ := h
    injection h2 with h3
    simpa using h3
  · rintro rfl
    rfl
theorem str_zero (y : Str) : (V.str y = V.str "0") ↔ y.cps.toList = [48] := by
  constructor
  · intro h
    injection h with h
    subst h
    rfl
  · intro h
    rw [show y = "0" from str_ext h]
theorem atI_zero {l : List Nat} {c : Nat} (h : l.head? = some c) : atI l 0 = some c := by
  cases l with
  | nil => cases h
  | cons a l =>
    unfold atI ixN
    simpa using h
theorem ok_number {f : Addr} {fd : FuncData} (G : Fn K mg "is_number" sNumber ["word"] f fd) (B : Bl mg) : FnOk P w K mg base CX0 1 f fd ["word"] spNumber := by
  obtain ⟨tF, hFG⟩ := B.fig
  obtain ⟨tM, hMF⟩ := B.mfig
  refine G.fn.ok scNumber (fun vs H Q E h => ?_) (fun cdv A outer s H vs Q E hr h => ?_)
  · obtain ⟨i, rfl, _⟩ := h
    rfl
  · obtain ⟨y, rfl, ha, hl, k⟩ := h
    refine ⟨_, (pss_cons (ps_if (PW.pt (pw_or (pt_not (pt_chain op_le op_le pe_int (pe_callB call_len_str rfl B.len b_len (pa_cons (pv 0) pa_nil)) (pe_glob (v := .int 6) rfl hMF ⟨_, rfl⟩))) (pw_or1 (PW.pt (pw_and (pt_cmpR op_eq (pe_ix ix_str (pv 0) pe_int (fun _ _ => rfl)) pe_str (nomark _)) (pw_and1 (pt_cmpR op_ne (pv 0) pe_str (nomark _))))))))
      (pss_one (ps_ret pe_bl))
      pss_nil)
    (pss_one (ps_ret (pe_callB (call_all rfl) rfl B.all b_all (pa_cons (pe_comp (own := ["sign"]) (fr := []) (frn := []) (compOk_of (defScope sNumber) ["word"] rfl rfl (by decide +kernel)) rfl (pi_str (pv 0))
        (fun _ _ _ _ => (pg_name (i := 0) (show (["sign"] : List Str).Nodup by decide +kernel) rfl (Or.inl rfl))) (fun _ _ _ _ => pf_nil)
        (fun _ _ _ _ => (pe_cmpR op_in_str (pv 0) (pe_glob (v := .str "0123456789") rfl hFG ⟨_, rfl⟩) (by with_unfolding_all rfl)))) pa_nil))))), ?_⟩
    have hy := len_list y
    have K0 : isNum y.cps.toList = false → Q (.bl false) H := fun e => by
      have := k H (Same.refl _)
      rw [e] at this
      exact this
    refine ⟨_, rfl, _, rfl, by rw [sizeLine_eq]; omega, _, _, rfl, rfl, _, rfl, ?_⟩
    refine ite2 (fun c1 => ⟨_, _, rfl, rfl, _, rfl, ?_⟩) (fun c1 => ?_)
    · have c1' := of_decide_eq_true c1
      refine ite2 (fun c2 => ?_) (fun c2 => ?_)
      · have c2' : ¬ ((y.length : Int) ≤ 6) := by simpa using c2
        refine K0 ?_
        unfold isNum
        rw [decide_eq_false (show ¬ y.cps.toList.length ≤ 6 by omega), Bool.and_false, Bool.false_and]
      · have c2' : (y.length : Int) ≤ 6 := by simpa using c2
        cases hyl : y.cps.toList with
        | nil => rw [hyl] at hy; exact absurd hy.symm (by simp; omega)
        | cons c l =>
          have hb : isNum y.cps.toList = (!(decide (y.cps.toList.head? = some 48) && !decide (y.cps.toList = [48])) && y.cps.toList.all dig) := by
            show ((_ && _) && _) = _
            rw [decide_eq_true (show 1 ≤ y.cps.toList.length by omega), decide_eq_true (show y.cps.toList.length ≤ 6 by omega), Bool.true_and, Bool.true_and]
          have go : (decide (y.cps.toList.head? = some 48) && !decide (y.cps.toList = [48])) = false → ∀ {K'}, K' = K → tCB (fun xs H_1 Q => ∃ p bs, xs = [V.ref p] ∧ SqL K' H_1 p (List.map V.bl bs) ∧ Q (V.bl (bs.all id)) H_1) (tCons (tComp 1 [] (iStr (tVar 0)) (gName 0) tAll (tOp (fun x y H Q => ∃ i j, x = V.str i ∧ y = V.str j ∧ Q (V.bl !(Builtin.Str.occurrences j i 0 j.length 1).isEmpty) H) (tVar 0) (tC (V.str "0123456789")))) tNil) [some (V.str y)] H Q := fun e K' eK => by
            subst eK
            refine figs_go rfl ha (by omega) fun H' s' => ?_
            have := k H' s'
            rw [hb, e, Bool.not_false, Bool.true_and] at this
            exact this
          refine ⟨_, rfl, _, 0, c, rfl, rfl, by rw [sizeLine_eq]; omega, atI_zero (by rw [hyl]; rfl), rfl, _, rfl, ?_⟩
          refine ite2 (fun c3 => ?_) (fun c3 => ?_)
          · have c3' := (one_zero c).mp (of_decide_eq_true c3)
            refine ⟨_, rfl, rfl, _, rfl, ?_⟩
            refine ite2 (fun c4 => ?_) (fun c4 => ?_)
            · refine K0 ?_
              have c4' : ¬ (V.str y = V.str "0") := by simpa using c4
              rw [hb, decide_eq_true (show y.cps.toList.head? = some 48 by rw [hyl, c3']; rfl), decide_eq_false (fun z => c4' ((str_zero y).mpr z))]
              rfl
            · have c4' : V.str y = V.str "0" := by simpa using c4
              exact go (by rw [decide_eq_true ((str_zero y).mp c4')]; simp) rfl
          · have c3' : ¬ c = 48 := fun z => c3 (decide_eq_true ((one_zero c).mpr z))
            exact go (by rw [decide_eq_false (show ¬ y.cps.toList.head? = some 48 by rw [hyl]; simpa using c3')]; rfl) rfl
    · have c1' : ¬ (1 ≤ (y.length : Int)) := by simpa using c1
      refine ⟨false, rfl, iteT (iteT (K0 ?_))⟩
      unfold isNum
      rw [decide_eq_false (show ¬ 1 ≤ y.cps.toList.length by omega), Bool.false_and, Bool.false_and]
theorem num_reads {y : Str} (h : isNum y.cps.toList = true) : intText? y = some (numV y.cps.toList) ∧ 0 ≤ numV y.cps.toList ∧ 1 ≤ y.length ∧ y.length ≤ 6 := by
  unfold isNum at h
  rw [Bool.and_eq_true, Bool.and_eq_true, Bool.and_eq_true] at h
  obtain ⟨⟨h1, h2⟩, _, h4⟩ := h
  have h1 := of_decide_eq_true h1
  have h2 := of_decide_eq_true h2
  have hy := len_list y
  refine ⟨PySem.intText_digits (fun c hc => ?_) (fun z => ?_) (by omega), Int.natCast_nonneg _, by omega, by omega⟩
  · have := List.all_eq_true.mp h4 c hc
    unfold dig at this
    simpa using this
  · rw [z] at h1
    exact absurd h1 (by decide)
def numO (w : List Nat) : V := if isNum w = true then .int (numV w) else .non
def spNum : Sp := fun vs H Q _ => ∃ y : Str, vs = [.str y] ∧ Asc y ∧ y.length ≤ 1000000 ∧ ∀ H', Same H H' → Q (numO y.cps.toList) H'
theorem scNum : FnScope ["word"] ["word"] (defScope sNum) := ⟨rfl, rfl, rfl, by decide +kernel, rfl, by decide +kernel, by decide +kernel⟩
theorem ok_num {f : Addr} {fd : FuncData} (G : Fn K mg "_law_e_number" sNum ["word"] f fd) (B : Bl mg) : FnOk P w K mg base CX0 1 f fd ["word"] spNum := by
  refine G.fn.ok scNum (fun vs H Q E h => ?_) (fun cdv A outer s H vs Q E hr h => ?_)
  · obtain ⟨i, rfl, _⟩ := h
    rfl
  · obtain ⟨y, rfl, ha, hl, k⟩ := h
    refine ⟨_, (pss_cons (ps_if (PW.pt (pw_or (pt_cmpR op_lt (pe_callB call_len_str rfl B.len b_len (pa_cons (pv 0) pa_nil)) pe_int (nomark _)) (pw_or (pt_cmpR op_gt (pe_callB call_len_str rfl B.len b_len (pa_cons (pv 0) pa_nil)) pe_int (nomark _)) (pw_or1 (pt_not (pt_val (pe_callB (call_all rfl) rfl B.all b_all (pa_cons (pe_comp (own := ["sign"]) (fr := []) (frn := []) (compOk_of (defScope sNum) ["word"] rfl rfl (by decide +kernel)) rfl (pi_str (pv 0))
        (fun _ _ _ _ => (pg_name (i := 0) (show (["sign"] : List Str).Nodup by decide +kernel) rfl (Or.inl rfl))) (fun _ _ _ _ => pf_nil)
        (fun _ _ _ _ => (pe_cmpR op_in_str (pv 0) pe_str (by with_unfolding_all rfl)))) pa_nil))))))))
      (pss_one (ps_ret pe_non))
      pss_nil)
    (pss_cons (ps_if (PW.pt (pw_and (pt_cmpR op_eq (pe_ix ix_str (pv 0) pe_int (fun _ _ => rfl)) pe_str (nomark _)) (pw_and1 (pt_cmpR op_ne (pv 0) pe_str (nomark _)))))
      (pss_one (ps_ret pe_non))
      pss_nil)
    (pss_one (ps_ret (pe_callTy call_intS rfl B.int b_int (pa_cons (pv 0) pa_nil)))))), ?_⟩
    have hy := len_list y
    have K0 : ∀ {H'}, Same H H' → isNum y.cps.toList = false → Q .non H' := fun {H'} s' e => by
      have := k H' s'
      rw [show numO y.cps.toList = .non by unfold numO; rw [e]; rfl] at this
      exact this
    have hsz : y.length ≤ sizeLine := by rw [sizeLine_eq]; omega
    refine ⟨_, rfl, _, rfl, hsz, _, _, rfl, rfl, _, rfl, ?_⟩
    refine ite2 (fun c1 => ?_) (fun c1 => ⟨_, rfl, _, rfl, hsz, _, _, rfl, rfl, _, rfl, ?_⟩)
    · have c1' : (y.length : Int) < 1 := by simpa using c1
      refine K0 (Same.refl _) ?_
      unfold isNum
      rw [decide_eq_false (show ¬ 1 ≤ y.cps.toList.length by omega), Bool.false_and, Bool.false_and]
    have c1' : ¬ (y.length : Int) < 1 := by simpa using c1
    refine ite2 (fun c2 => ?_) (fun c2 => ?_)
    · have c2' : (6 : Int) < y.length := by simpa using c2
      refine K0 (Same.refl _) ?_
      unfold isNum
      rw [decide_eq_false (show ¬ y.cps.toList.length ≤ 6 by omega), Bool.and_false, Bool.false_and]
    have c2' : ¬ (6 : Int) < y.length := by simpa using c2
    have hb : isNum y.cps.toList = (!(decide (y.cps.toList.head? = some 48) && !decide (y.cps.toList = [48])) && y.cps.toList.all dig) := by
      show ((_ && _) && _) = _
      rw [decide_eq_true (show 1 ≤ y.cps.toList.length by omega), decide_eq_true (show y.cps.toList.length ≤ 6 by omega), Bool.true_and, Bool.true_and]
    unfold tNot tB
    refine figs_go (K := K) (σ := [some (V.str y)]) (H := H) (w := y) rfl ha (by omega) fun H1 s1 => ?_
    refine ⟨_, rfl, ?_⟩
    refine ite2 (fun c3 => ?_) (fun c3 => ?_)
    · have c3' : y.cps.toList.all dig = false := by simpa using c3
      exact K0 s1 (by rw [hb, c3', Bool.and_false])
    have c3' : y.cps.toList.all dig = true := by
      cases e : y.cps.toList.all dig with
      | true => rfl
      | false => rw [e] at c3; exact absurd rfl c3
    cases hyl : y.cps.toList with
    | nil => rw [hyl] at hy; exact absurd hy.symm (by simp; omega)
    | cons c l =>
      have go : (decide (y.cps.toList.head? = some 48) && !decide (y.cps.toList = [48])) = false → isNum y.cps.toList = true := fun e => by rw [hb, e, c3']; rfl
      refine ⟨_, rfl, _, 0, c, rfl, rfl, hsz, atI_zero (by rw [hyl]; rfl), rfl, _, rfl, ?_⟩
      refine ite2 (fun c4 => ?_) (fun c4 => ?_)
      · have c4' := (one_zero c).mp (of_decide_eq_true c4)
        refine ⟨_, rfl, rfl, _, rfl, ?_⟩
        refine ite2 (fun c5 => ?_) (fun c5 => ?_)
        · refine K0 s1 ?_
          have c5' : ¬ (V.str y = V.str "0") := by simpa using c5
          rw [hb, decide_eq_true (show y.cps.toList.head? = some 48 by rw [hyl, c4']; rfl), decide_eq_false (fun z => c5' ((str_zero y).mpr z))]
          rfl
        · have c5' : V.str y = V.str "0" := by simpa using c5
          have hn := go (by rw [decide_eq_true ((str_zero y).mp c5')]; simp)
          obtain ⟨n1, n2, n3, n4⟩ := num_reads hn
          have := k H1 s1
          rw [show numO y.cps.toList = .int (numV y.cps.toList) by unfold numO; rw [hn]; rfl] at this
          exact ⟨_, rfl, y, _, rfl, n1, by omega, this⟩
      · have c4' : ¬ c = 48 := fun z => c4 (decide_eq_true ((one_zero c).mpr z))
        have hn := go (by rw [decide_eq_false (show ¬ y.cps.toList.head? = some 48 by rw [hyl]; simpa using c4')]; rfl)
        obtain ⟨n1, n2, n3, n4⟩ := num_reads hn
        have := k H1 s1
        rw [show numO y.cps.toList = .int (numV y.cps.toList) by unfold numO; rw [hn]; rfl] at this
        exact ⟨_, rfl, y, _, rfl, n1, by omega, this⟩
end
end Ab
set_option Elab.async false
set_option linter.all false
set_option maxRecDepth 100000
namespace L2
open PySem PySem.Spec PyProof.Rows
section
variable {P : Program} {w : World} {K : PySem.W.Frag} {mg : Str → Option Value} {base : Heap} {k : Nat} {f : Addr} {fd : FuncData} {ps : List Str} {sp sp' : Sp} {CX : CXT}
end
theorem pe_fn1 {X : Cx} {x : Str} {st : Stmt} {ps : List Str} {f : Addr} {fd : FuncData} {k : Nat} {sp : Sp} {E : XK} {p pos : Pos} {e : Expr} {es : List Expr} {t : TA} (G : Fn X.K X.mg x st ps f fd) (ok : FnOk X.prog X.w X.K X.mg X.base (CX1 X.prog X.w) k f fd ps sp) (hr : Room k X.A) (hg : Gl X x) (hp : Passes (CX1 X.prog X.w) X E) (ha : PA X (e :: es) t)
    (hdb : (x == ("__debug__" : Str)) = false := by decide) (he : starEach (e :: es) X.env = (false, eval e X.env) :: starEach es X.env := by rfl) (hpl : (backTo pos (starEach es X.env)).any (·.1) = false := by rfl) :
    PE X (.Call (.Name x p) (e :: es) [] pos) (tCall sp [] E t) := pe_call ok hr hg G.mgx G.kp G.bd .nil hp ha hdb he hpl
end L2
namespace Ab
open PySem L2
def nms : List Str := ["NoBook", "NoCosts", "NoDeal", "NoHand", "NoRooms", "NoRow", "NoText", "NoWay", "NoWeights", "NoWork", "TooMany"]
structure Cl (K : PySem.W.Frag) (mg : Str → Option Value) (cE : Addr) (c : Nat → Addr) : Prop where
  mc : ∀ (i : Nat) (n : Str), nms[i]? = some n → mg n = some (.ref (c i))
  ec : ∀ i, i < 11 → ∀ h : Heap, K.In h → EcH h (c i) (.ref cE :: vbm)
  inj : ∀ i j, i < 11 → j < 11 → c i = c j → i = j
  ne : ∀ i, i < 11 → c i ≠ cE
  mE : mg "DealError" = some (.ref cE)
  eE : ∀ h : Heap, K.In h → EcH h cE vbm
section
variable {P : Program} {w : World} {K : PySem.W.Frag} {mg : Str → Option Value} {base : Heap} {cE : Addr} {c : Nat → Addr}
theorem Cl.has (Z : Cl K mg cE c) {i j : Nat} (hi : i < 11) (hj : j < 11) : (Value.ref (c j) :: .ref cE :: vbm).contains (.ref (c i)) = decide (j = i) := by
  by_cases e : j = i
  · subst e; simp
  · have h1 : (Value.ref (c i) == Value.ref (c j)) = false := by
      rw [beq_eq_false_iff_ne]
      intro z
      injection z with z
      exact e (Z.inj j i hj hi z.symm)
    have h2 : (Value.ref (c i) == Value.ref cE) = false := by
      rw [beq_eq_false_iff_ne]
      intro z
      injection z with z
      exact Z.ne i hi z
    rw [List.contains_cons, List.contains_cons, h1, h2, decide_eq_false e]
    rfl
theorem Cl.up (Z : Cl K mg cE c) {j : Nat} : (Value.ref (c j) :: .ref cE :: vbm).contains (.ref cE) = true := by simp
def tIsi (c : Nat → Addr) (i : Nat) : TE := fun σ H Q => ∃ (a : Addr) (j : Nat), σ[0]? = some (some (.ref a)) ∧ H a = some (ExO (c j) a) ∧ j < 11 ∧ Q (.bl (decide (j = i))) H
theorem pe_isi {X : Cx} {n x : Str} {i : Nat} {p p1 p2 pos : Pos} (Z : Cl K mg cE c) (B : Bl mg) (hK : X.K = K) (hmg : X.mg = mg) (hN : nms[i]? = some n) (hg : Gl X "isinstance") (hgn : Gl X n) (h0 : X.N[0]? = some x) (hx : X.env.scope.names.lookup x = some .local)
    (hd : (x == ("__debug__" : Str)) = false := by decide) (hcd : (x == ("__classdict__" : Str)) = false := by decide) (hdn : (n == ("__debug__" : Str)) = false := by decide)
    (he : starEach [.Name x p1, .Name n p2] X.env = (false, eval (.Name x p1) X.env) :: starEach [.Name n p2] X.env := by rfl) (hpl : (backTo pos (starEach [.Name n p2] X.env)).any (·.1) = false := by rfl) :
    PE X (.Call (.Name "isinstance" p) [.Name x p1, .Name n p2] [] pos) (tIsi c i) := by
  have hi : i < 11 := (List.getElem?_eq_some_iff.mp hN).1
  have hC' : ∀ h : Heap, K.In h → ∃ dd cd sl, h.get? (c i) = some { cls := .type "type", dict := dd, data := .cls cd, slots := sl } := fun h hin => by
    obtain ⟨N, nm, q, bs, hdct, sn, sub, ab, col, dd, k0, k1, k2, k3, k5, mN, hC, _⟩ := Z.ec i hi h hin
    exact ⟨_, _, _, hC⟩
  have J : PE X (.Call (.Name "isinstance" p) [.Name x p1, .Name n p2] [] pos) _ := pe_callB (call_isi_exc (X := X) (K := K) (C' := c i) hK hC') hg (by rw [hmg]; exact B.isinstance) b_isi (pa_cons (pv 0 h0 (.inl hx) hd hcd) (pa_cons (pe_glob (v := .ref (c i)) hgn (by rw [hmg]; exact Z.mc i n hN) rfl hdn) pa_nil)) (by decide) (by decide) he hpl
  intro pins s σ H Q I h
  obtain ⟨a, j, e0, hH, hj, q⟩ := h
  refine J pins s σ H Q I ⟨_, e0, a, c j, _, rfl, hH, Z.ec j hj, ?_⟩
  rw [Z.has hi hj]
  exact q
def bsOf (j : Nat) : List Bool := [decide (j = 0), decide (j = 1), decide (j = 2), decide (j = 3), decide (j = 4), decide (j = 5), decide (j = 6), decide (j = 7), decide (j = 8), decide (j = 9), decide (j = 10)]
theorem sz3 (x y z : V) : [x, y, z].length ≤ sizeLine := by rw [sizeLine_eq]; simp
end
theorem b_ve : bootBuiltins "ValueError" = some (.type "ValueError") := by decide +kernel
def words : List Str := ["book", "costs", "deal", "hand", "rooms", "row", "text", "way", "weights", "work", "many"]
theorem bs_count : ∀ j, j < 11 → (bsOf j).count true = 1 := by decide +kernel
theorem bs_at : ∀ j, j < 11 → (bsOf j)[j]? = some true := by decide +kernel
theorem bs_no : ∀ j, j < 11 → ∀ m, m < j → (bsOf j)[m]? ≠ some true := by decide +kernel
section
variable {P : Program} {w : World} {K : PySem.W.Frag} {mg : Str → Option Value} {base : Heap} {cE : Addr} {c : Nat → Addr}
variable {fW fH fK fB fNB : Addr} {dW dH dK dB dNB : FuncData}
def spNeedBx (K : PySem.W.Frag) (c : Nat → Addr) : Sp := fun vs H _ E => ∃ x d, vs = [x] ∧ Den K H d x ∧ isBook d = false ∧ ∀ H', Same H H' → E (.ref (c 0)) none H'
theorem ok_needBx (B : Bl mg) (R : Pr K mg fW fH fK fB fNB dW dH dK dB dNB) (Z : Cl K mg cE c) : FnOk P w K mg base (CX1 P w) 4 fNB dNB ["book"] (spNeedBx K c) := by
  have OB : FnOk P w K mg base CX0 3 fB dB ["thing"] (spBookP K) := ok_bookP R.B B R.W R.H R.Kw
  refine R.NB.fn.okX scNeedB (fun vs H Q E h => ?_) (fun cdv A outer s H vs Q E hr h => ?_)
  · obtain ⟨x, d, rfl, _⟩ := h
    rfl
  · obtain ⟨x, d, rfl, hd, hb, k⟩ := h
    refine ⟨_, pss_one (ps_if (pt_not (pt_val (pe_fn R.B OB hr rfl (pa_cons (pv 0) pa_nil)))) (pss_one (ps_raise (Z.ec 0 (by decide)) rfl (Z.mc 0 _ rfl) rfl (fun _ _ _ _ _ _ _ I m q => raised1 I m q))) pss_nil), ?_⟩
    refine ⟨_, rfl, x, d, rfl, hd, fun H' hs => ⟨_, rfl, ?_⟩⟩
    rw [hb]
    refine iteT ?_
    exact k H' hs
theorem scShowB : FnScope ["book", "hands", "works", "rows"] ["book"] (defScope sShowB) := ⟨rfl, rfl, rfl, by decide +kernel, rfl, by decide +kernel, by decide +kernel⟩
theorem ok_showBx {f : Addr} {fd : FuncData} (G : Fn K mg "show_book" sShowB ["book"] f fd) (B : Bl mg) (R : Pr K mg fW fH fK fB fNB dW dH dK dB dNB) (Z : Cl K mg cE c) : FnOk P w K mg base (CX1 P w) 5 f fd ["book"] (spNeedBx K c) := by
  have ON : FnOk P w K mg base (CX1 P w) 4 fNB dNB ["book"] (spNeedBx K c) := ok_needBx B R Z
  refine G.fn.okX scShowB (fun vs H Q E h => ?_) (fun cdv A outer s H vs Q E hr h => ?_)
  · obtain ⟨x, d, rfl, _⟩ := h
    rfl
  · obtain ⟨x, d, rfl, hd, hb, k⟩ := h
    refine ⟨_, pss_cons (ps_expr (pe_fn1 R.NB ON hr rfl pass1 (pa_cons (pv 0) pa_nil))) pss_never, ?_⟩
    exact ⟨_, rfl, x, d, rfl, hd, hb, k⟩
end
end Ab
set_option Elab.async false
set_option linter.all false
set_option maxRecDepth 100000
namespace Ab
open PySem L2
section
variable {P : Program} {w : World} {K : PySem.W.Frag} {mg : Str → Option Value} {base : Heap} {cE : Addr} {c : Nat → Addr}
def spKind (c : Nat → Addr) : Sp := fun vs H Q _ => ∃ (a : Addr) (j : Nat) (t : Str), vs = [.ref a] ∧ H a = some (ExO (c j) a) ∧ j < 11 ∧ words[j]? = some t ∧ ∀ H', Same H H' → Q (.str t) H'
theorem scKind : FnScope ["caught", "names", "kinds"] ["caught"] (defScope sKind) := ⟨rfl, rfl, rfl, by decide +kernel, rfl, by decide +kernel, by decide +kernel⟩
set_option maxHeartbeats 10000000 in
theorem ok_kind {f : Addr} {fd : FuncData} (G : Fn K mg "_law_e_kind" sKind ["caught"] f fd) (B : Bl mg) (Z : Cl K mg cE c) : FnOk P w K mg base CX0 1 f fd ["caught"] (spKind c) := by
  refine G.fn.ok scKind (fun vs H Q E h => ?_) (fun cdv A outer s H vs Q E hr h => ?_)
  · obtain ⟨a, j, t, rfl, _⟩ := h
    rfl
  · obtain ⟨a, j, t, rfl, hH, hj, ht, k⟩ := h
    refine PSso.ex (psso_cons (pso_set (i := 1) scKind.nd rfl (Or.inl rfl) (peo_lst (pao_cons peo_str (pao_cons peo_str (pao_cons peo_str (pao_cons peo_str (pao_cons peo_str (pao_cons peo_str (pao_cons peo_str (pao_cons peo_str (pao_cons peo_str (pao_cons peo_str (pao_cons peo_str pao_nil se_const) se_const) se_const) se_const) se_const) se_const) se_const) se_const) se_const) se_const) se_const)))
      (psso_cons ⟨ps_set (i := 2) scKind.nd rfl (Or.inl rfl) (pe_lst (pa_cons (pe_isi (i := 0) Z B rfl rfl rfl rfl rfl rfl rfl) (pa_cons (pe_isi (i := 1) Z B rfl rfl rfl rfl rfl rfl rfl) (pa_cons (pe_isi (i := 2) Z B rfl rfl rfl rfl rfl rfl rfl) pa_nil))))⟩
      (psso_cons ⟨ps_set (i := 2) scKind.nd rfl (Or.inl rfl) (pe_op op_cat (pv 2) (pe_lst (pa_cons (pe_isi (i := 3) Z B rfl rfl rfl rfl rfl rfl rfl) (pa_cons (pe_isi (i := 4) Z B rfl rfl rfl rfl rfl rfl rfl) (pa_cons (pe_isi (i := 5) Z B rfl rfl rfl rfl rfl rfl rfl) pa_nil)))))⟩
      (psso_cons ⟨ps_set (i := 2) scKind.nd rfl (Or.inl rfl) (pe_op op_cat (pv 2) (pe_lst (pa_cons (pe_isi (i := 6) Z B rfl rfl rfl rfl rfl rfl rfl) (pa_cons (pe_isi (i := 7) Z B rfl rfl rfl rfl rfl rfl rfl) (pa_cons (pe_isi (i := 8) Z B rfl rfl rfl rfl rfl rfl rfl) pa_nil)))))⟩
      (psso_cons ⟨ps_set (i := 2) scKind.nd rfl (Or.inl rfl) (pe_op op_cat (pv 2) (pe_lst (pa_cons (pe_isi (i := 9) Z B rfl rfl rfl rfl rfl rfl rfl) (pa_cons (pe_isi (i := 10) Z B rfl rfl rfl rfl rfl rfl rfl) pa_nil))))⟩
      (psso_cons ⟨ps_if (PW.pt (pw_or (pt_cmpR op_ne (pe_bmK (K := K) rfl PySem.F.plainAttrs_list PySem.F.slot_list_count PySem.F.type_list_count (mt_countLB (K := K) rfl) (pv 2) (pa_cons pe_bl pa_nil)) pe_int (nomark _))
        (pw_or1 (pt_not (pt_val (pe_callB (call_isi_ve (K := K) rfl) rfl B.isinstance b_isi (pa_cons (pv 0) (pa_cons (pe_bltn (v := .ty "ValueError") rfl B.ve b_ve rfl) pa_nil)))))))) (pss_one (ps_ret pe_str)) pss_nil⟩
      (psso_one ⟨ps_ret (pe_ix ix_list (pv 1) (pe_bmK (K := K) rfl PySem.F.plainAttrs_list PySem.F.slot_list_index PySem.F.type_list_index (mt_indexLB (K := K) rfl) (pv 2) (pa_cons pe_bl pa_nil)) (fun _ _ => rfl))⟩))))))) ?_
    refine ⟨by rw [sizeLine_eq]; decide, fun p0 hp0 => ?_⟩
    have s0 := Same.new (o := .lst (words.map V.str)) hp0
    have e0 : upd H p0 (.lst (words.map V.str)) p0 = some (.lst (words.map V.str)) := upd_same
    have h0 := s0 _ _ hH
    refine ⟨a, j, rfl, h0, hj, a, j, rfl, h0, hj, a, j, rfl, h0, hj, sz3 _ _ _, fun p1 hp1 => ?_⟩
    have h1 := fun o => (Same.new (o := o) hp1) _ _ h0
    refine ⟨_, rfl, a, j, rfl, h1 _, hj, a, j, rfl, h1 _, hj, a, j, rfl, h1 _, hj, sz3 _ _ _, fun p2 hp2 => ?_⟩
    refine ⟨_, _, _, _, rfl, rfl, (Same.new hp2) _ _ upd_same, upd_same, by rw [sizeLine_eq]; simp, fun p3 hp3 => ?_⟩
    have s3 := fun o => (Same.new hp1).trans ((Same.new hp2).trans (Same.new (o := o) hp3))
    have h3 := fun o => s3 o _ _ h0
    refine ⟨_, rfl, a, j, rfl, h3 _, hj, a, j, rfl, h3 _, hj, a, j, rfl, h3 _, hj, sz3 _ _ _, fun p4 hp4 => ?_⟩
    refine ⟨_, _, _, _, rfl, rfl, (Same.new hp4) _ _ upd_same, upd_same, by rw [sizeLine_eq]; simp, fun p5 hp5 => ?_⟩
    have s5 := fun o => (s3 _).trans ((Same.new hp4).trans (Same.new (o := o) hp5))
    have h5 := fun o => s5 o _ _ h0
    refine ⟨_, rfl, a, j, rfl, h5 _, hj, a, j, rfl, h5 _, hj, sz2 _ _, fun p6 hp6 => ?_⟩
    refine ⟨_, _, _, _, rfl, rfl, (Same.new hp6) _ _ upd_same, upd_same, by rw [sizeLine_eq]; simp, fun p7 hp7 => ?_⟩
    have s7 := fun o => (s5 _).trans ((Same.new hp6).trans (Same.new (o := o) hp7))
    have h7 := fun o => s7 o _ _ h0
    have w7 := fun o => s7 o _ _ e0
    have ec : ((bsOf j).count true : Int) = 1 := by rw [bs_count j hj]; rfl
    refine ⟨_, rfl, .inl ⟨rfl, _, SqL.of upd_same⟩, p7, bsOf j, true, rfl, rfl, SqL.of upd_same, rfl, _, rfl, ?_⟩
    rw [ec]
    refine iteF ?_
    refine ⟨_, rfl, a, c j, _, rfl, h7 _, Z.ec j hj, _, rfl, ?_⟩
    refine iteF ?_
    refine ⟨_, rfl, _, rfl, .inl ⟨rfl, _, SqL.of upd_same⟩, p7, bsOf j, true, j, rfl, rfl, SqL.of upd_same, bs_at j hj, bs_no j hj, p0, words.map V.str, j, .str t, rfl, rfl, SqL.of (w7 _), atI_nat ?_, ?_⟩
    · rw [List.getElem?_map, ht]; rfl
    · exact k _ (s0.trans (s7 _))
end
end Ab
set_option Elab.async false
set_option linter.all false
set_option maxRecDepth 100000
namespace L2
open PySem PySem.Spec PyProof.Rows
section
variable {X : Cx} {K : PySem.W.Frag} {H : Hp}
theorem denAll_strs : ∀ {w : List Str} {xs : List V}, DenAll K H (w.map PyData.str) xs ↔ xs = w.map V.str
  | [], xs => denAll_nil
  | s :: w, xs => by
    rw [List.map_cons, denAll_cons]
    constructor
    · rintro ⟨x, r, rfl, h1, h2⟩
      rw [den_str.mp h1, denAll_strs.mp h2]
      rfl
    · rintro rfl
      exact ⟨_, _, rfl, den_str.mpr rfl, denAll_strs.mpr rfl⟩
theorem den_strs {w : List Str} {v : V} : Den K H (.list (w.map .str)) v ↔ ∃ a, v = .ref a ∧ SqL K H a (w.map V.str) := by
  rw [den_list]
  constructor
  · rintro ⟨a, xs, rfl, h1, h2⟩
    rw [denAll_strs.mp h2] at h1
    exact ⟨a, rfl, h1⟩
  · rintro ⟨a, rfl, h⟩
    exact ⟨a, _, rfl, h, denAll_strs.mpr rfl⟩
end
end L2
namespace Ab
open PySem L2
def rowD (w : List Str) : PyData := .list (w.map .str)
def scOutRB : Scope := match (defBody sReadB).getD 5 (.Pass ⟨0, 0, 0, 0⟩) with
  | .Assign _ (.Tuple [_, .Call _ [.ListComp _ _ sc _] _ _] _ _) _ => sc
  | _ => defScope sReadB

def wds (p : Str) : List Str := Txt.split p " "
def prt (t : Str) : List Str := Txt.split t "; "
def headOk (u : List Str) : Bool := decide (u.length = 2) && (decide (u[0]? = some ("hands" : Str)) && isNum ((u[1]?.getD Str.empty).cps.toList))
def rowOk (u : List Str) : Bool := u.all fun y => isNum y.cps.toList
def textOk (t : Str) : Bool := headOk (wds ((prt t).headD Str.empty)) && ((prt t).tail.all fun p => rowOk (wds p))
def rowN (u : List Str) : List Int := u.map fun y => numV y.cps.toList
def handsOf (t : Str) : Int := numV (((wds ((prt t).headD Str.empty))[1]?.getD Str.empty).cps.toList)
def worksOf (t : Str) : List (List Int) := (prt t).tail.map fun p => rowN (wds p)
theorem k_sc : Builtin.Str.strKind ("; " : Str) = 1 ∧ 1 ≤ ("; " : Str).length := by decide +kernel
theorem k_sp : Builtin.Str.strKind (" " : Str) = 1 ∧ 1 ≤ (" " : Str).length := by decide +kernel
theorem asc_inf {x y : Str} (h : Asc x) (e : y.cps.toList <:+: x.cps.toList) : Asc y ∧ y.length ≤ x.length := by
  refine ⟨asc_of fun c hc => h.lt (e.subset hc), ?_⟩
  have := e.length_le
  rw [len_list, len_list] at this
  exact this
theorem prt_asc {t p : Str} (h : Asc t) (hp : p ∈ prt t) : Asc p ∧ p.length ≤ t.length := asc_inf h (split_inf k_sc.1 k_sc.2 hp)
theorem wds_asc {t p : Str} (h : Asc t) (hp : p ∈ wds t) : Asc p ∧ p.length ≤ t.length := asc_inf h (split_inf k_sp.1 k_sp.2 hp)
theorem jn_sum {s : List Nat} (hs : 1 ≤ s.length) : ∀ {ps : List (List Nat)}, ps ≠ [] → (ps.map fun p => p.length + 1).sum ≤ (jn s ps).length + 1
  | [], h => absurd rfl h
  | [p], _ => by simp [jn]
  | p :: q :: r, _ => by
    have ih := jn_sum hs (ps := q :: r) (by simp)
    rw [List.map_cons, List.sum_cons]
    show _ ≤ (p ++ s ++ jn s (q :: r)).length + 1
    rw [List.length_append, List.length_append]
    omega
theorem split_sum {x sep : Str} (hk : Builtin.Str.strKind sep = 1 ∧ 1 ≤ sep.length) : ((Txt.split x sep).map fun p => p.length + 1).sum ≤ x.length + 1 := by
  obtain ⟨h1, h2, _⟩ := split_is (x := x) hk.1 hk.2
  have := jn_sum (s := sep.cps.toList) (by rw [len_list]; exact hk.2) (ps := (Txt.split x sep).map (·.cps.toList)) (by simpa using h1)
  rw [h2, List.map_map, len_list] at this
  refine Nat.le_trans (Nat.le_of_eq ?_) this
  congr 1
theorem sum_ge {α : Type} (f : α → Nat) : ∀ l : List α, l.length ≤ (l.map fun x => f x + 1).sum
  | [] => Nat.le_refl _
  | x :: l => by have := sum_ge f l; rw [List.map_cons, List.sum_cons, List.length_cons]; omega
theorem split_len {x sep : Str} (hk : Builtin.Str.strKind sep = 1 ∧ 1 ≤ sep.length) : (Txt.split x sep).length ≤ x.length + 1 := Nat.le_trans (sum_ge (fun p : Str => p.length) _) (split_sum hk)
theorem flat_len {α β : Type} (f : α → List β) (g : α → Nat) : ∀ l : List α, (∀ x ∈ l, (f x).length ≤ g x) → ((l.map f).flatten).length ≤ (l.map g).sum
  | [], _ => Nat.le_refl _
  | x :: l, h => by
    have h1 := h x (List.mem_cons_self ..)
    have h2 := flat_len f g l fun y hy => h y (List.mem_cons_of_mem _ hy)
    rw [List.map_cons, List.flatten_cons, List.length_append, List.map_cons, List.sum_cons]
    omega
theorem count_jn {s : List Nat} (hs : s.count 32 = 1) : ∀ {ps : List (List Nat)}, ps ≠ [] → (jn s ps).count 32 + 1 = (ps.map fun p => p.count 32 + 1).sum
  | [], h => absurd rfl h
  | [p], _ => by simp [jn]
  | p :: q :: r, _ => by
    have ih := count_jn hs (ps := q :: r) (by simp)
    rw [List.map_cons, List.sum_cons, ← ih]
    show (p ++ s ++ jn s (q :: r)).count 32 + 1 = _
    rw [List.count_append, List.count_append, hs]
    omega
theorem sum_ones {α : Type} (f : α → Nat) : ∀ l : List α, (∀ x ∈ l, f x = 1) → (l.map f).sum = l.length
  | [], _ => rfl
  | x :: l, h => by
    rw [List.map_cons, List.sum_cons, h x (List.mem_cons_self ..), sum_ones f l fun y hy => h y (List.mem_cons_of_mem _ hy), List.length_cons]
    omega
theorem wds_len (p : Str) : (wds p).length = p.cps.toList.count 32 + 1 := by
  obtain ⟨h1, h2, h3⟩ := split_is (x := p) k_sp.1 k_sp.2
  have e : (" " : Str).cps.toList = [32] := by decide +kernel
  have := count_jn (s := (" " : Str).cps.toList) (by rw [e]; rfl) (ps := (wds p).map (·.cps.toList)) (by simpa [wds] using h1)
  rw [show jn (" " : Str).cps.toList ((wds p).map (·.cps.toList)) = p.cps.toList from h2, List.map_map] at this
  rw [this]
  refine (sum_ones _ _ fun y hy => ?_).symm
  have hn := h3 y hy
  rw [e] at hn
  show List.count 32 y.cps.toList + 1 = 1
  rw [List.count_eq_zero.mpr fun z => hn ?_]
  obtain ⟨a, b, e2⟩ := List.append_of_mem z
  exact ⟨a, b, by rw [e2]; simp⟩
theorem all_words (t : Str) : ((prt t).map fun p => (wds p).length).sum = t.cps.toList.count 32 + 1 := by
  obtain ⟨h1, h2, h3⟩ := split_is (x := t) k_sc.1 k_sc.2
  have e : ("; " : Str).cps.toList = [59, 32] := by decide +kernel
  have := count_jn (s := ("; " : Str).cps.toList) (by rw [e]; rfl) (ps := (prt t).map (·.cps.toList)) (by simpa [prt] using h1)
  rw [show jn ("; " : Str).cps.toList ((prt t).map (·.cps.toList)) = t.cps.toList from h2, List.map_map] at this
  rw [this]
  congr 1
  refine List.map_congr_left fun p _ => ?_
  rw [wds_len]
  rfl
theorem mem_sum {α : Type} (f : α → Nat) : ∀ {l : List α} {x : α}, x ∈ l → f x ≤ (l.map f).sum
  | y :: l, x, h => by
    rw [List.map_cons, List.sum_cons]
    rcases List.mem_cons.mp h with rfl | h
    · omega
    · have := mem_sum f h; omega
section
variable {P : Program} {w : World} {K : PySem.W.Frag} {mg : Str → Option Value} {base : Heap} {cE : Addr} {c : Nat → Addr}
variable {fW fH fK fB fNB : Addr} {dW dH dK dB dNB : FuncData}
def spReadB (K : PySem.W.Frag) (c : Nat → Addr) : Sp := fun vs H Q E => ∃ t : Str, vs = [.str t] ∧ Asc t ∧ t.length ≤ 10000 ∧ t.cps.toList.count 32 ≤ 900 ∧ (textOk t = false → ∀ H', Same H H' → E (.ref (c 6)) none H') ∧ (textOk t = true → isBook (bookD (handsOf t) (worksOf t)) = false → ∀ H', Same H H' → E (.ref (c 0)) none H') ∧ (textOk t = true → isBook (bookD (handsOf t) (worksOf t)) = true → ∀ p H', Same H H' → Den K H' (bookD (handsOf t) (worksOf t)) (.ref p) → Q (.ref p) H')
theorem scReadB : FnScope ["text", "rows", "first", "others", "book"] ["text"] (defScope sReadB) := ⟨rfl, rfl, rfl, by decide +kernel, rfl, by decide +kernel, by decide +kernel⟩
set_option maxHeartbeats 4000000 in
theorem ok_readB {f fN : Addr} {fd dN : FuncData} (G : Fn K mg "read_book" sReadB ["text"] f fd) (B : Bl mg) (R : Pr K mg fW fH fK fB fNB dW dH dK dB dNB) (Z : Cl K mg cE c) (GNm : Fn K mg "is_number" sNumber ["word"] fN dN) : FnOk P w K mg base (CX1 P w) 4 f fd ["text"] (spReadB K c) := by
  have ONm : FnOk P w K mg base CX0 1 fN dN ["word"] spNumber := ok_number GNm B
  have OB3 : FnOk P w K mg base CX0 3 fB dB ["thing"] (spBookP K) := ok_bookP R.B B R.W R.H R.Kw
  refine G.fn.okX scReadB (fun vs H Q E h => ?_) (fun cdv A outer s H vs Q E hr h => ?_)
  · obtain ⟨t, rfl, _⟩ := h
    rfl
  · obtain ⟨t, rfl, ha, hl, hcn, kT, kB, kQ⟩ := h
    have r1 : Room 1 _ := hr.mono (by decide)
    have r3 : Room 3 _ := hr
    refine ⟨_, (pss_cons (ps_if (pt_not (pt_val (pe_callB call_isi_strV rfl B.isinstance b_isi (pa_cons (pv 0) (pa_cons (pe_bltn (v := .ty "str") rfl B.str b_str rfl) pa_nil)))))
      pss_never
      pss_nil)
    (pss_cons (ps_setcomp (i := 1) (own := ["row"]) (fr := []) (frn := []) (compOk_of (defScope sReadB) ["text", "rows", "first", "others", "book"] rfl rfl (by decide +kernel)) rfl scReadB.nd rfl rfl rfl (pi_list (pe_bmK (K := K) rfl PySem.F.plainAttrs_str PySem.F.slot_str_split PySem.F.type_str_split mt_split (pv 0) (pa_cons pe_str pa_nil)))
        (fun _ _ _ _ => (pg_name (i := 0) (show (["row"] : List Str).Nodup by decide +kernel) rfl (Or.inl rfl))) (fun _ _ _ _ => pf_nil)
        (fun _ _ _ _ => (pe_bmK (K := K) rfl PySem.F.plainAttrs_str PySem.F.slot_str_split PySem.F.type_str_split mt_split (pv 0) (pa_cons pe_str pa_nil))))
    (pss_cons (ps_asg (pv 1) (pg_star rfl (pgs_cons (pg_name (i := 2) scReadB.nd rfl (Or.inl rfl)) (pgs_cons (pg_name (i := 3) scReadB.nd rfl (Or.inl rfl)) pgs_nil))))
    (pss_cons (ps_if (PW.pt (pw_or (pt_cmpR op_ne (pe_callB call_len_seq rfl B.len b_len (pa_cons (pv 2) pa_nil)) pe_int (nomark _)) (pw_or (pt_cmpR op_ne (pe_ix ix_list (pv 2) pe_int (fun _ _ => rfl)) pe_str (nomark _)) (pw_or1 (pt_not (pt_val (pe_fn GNm ONm r1 rfl (pa_cons (pe_ix ix_list (pv 2) pe_int (fun _ _ => rfl)) pa_nil))))))))
      (pss_one (ps_raise (Z.ec 6 (by decide)) rfl (Z.mc 6 _ rfl) rfl (fun _ _ _ _ _ _ _ I m q => raised1 I m q)))
      pss_nil)
    (pss_cons (ps_if (pt_not (pt_val (pe_callB (call_all rfl) rfl B.all b_all (pa_cons (pe_comp2 (own := ["row", "word"]) (fr := []) (frn := []) (compOk_of (defScope sReadB) ["text", "rows", "first", "others", "book"] rfl rfl (by decide +kernel)) rfl (pi_list (pv 3))
        (fun _ _ _ _ => (pg_name (i := 0) (show (["row", "word"] : List Str).Nodup by decide +kernel) rfl (Or.inl rfl))) (fun _ _ _ _ => (pi_listK (K := K) rfl (pv 0))) (fun _ _ _ _ => (pg_name (i := 1) (show (["row", "word"] : List Str).Nodup by decide +kernel) rfl (Or.inl rfl)))
        (fun _ _ _ _ => (pe_fn GNm ONm r1 rfl (pa_cons (pv 1) pa_nil)))) pa_nil))))
      (pss_one (ps_raise (Z.ec 6 (by decide)) rfl (Z.mc 6 _ rfl) rfl (fun _ _ _ _ _ _ _ I m q => raised1 I m q)))
      pss_nil)
    (pss_cons (ps_set (i := 4) scReadB.nd rfl (Or.inl rfl) (pe_tup (pa_cons (pe_callTy call_intS rfl B.int b_int (pa_cons (pe_ix ix_list (pv 2) pe_int (fun _ _ => rfl)) pa_nil)) (pa_cons (pe_callTy call_tuple_of rfl B.tuple b_tuple (pa_cons (pe_comp (own := ["row"]) (fr := []) (frn := []) (compOk_of (defScope sReadB) ["text", "rows", "first", "others", "book"] rfl rfl (by decide +kernel)) rfl (pi_list (pv 3))
        (fun _ _ _ _ => (pg_name (i := 0) (show (["row"] : List Str).Nodup by decide +kernel) rfl (Or.inl rfl))) (fun _ _ _ _ => pf_nil)
        (fun _ _ _ _ => (pe_callTy (kTupOf (K := K) rfl) rfl B.tuple b_tuple (pa_cons (pe_comp (own := ["word"]) (fr := []) (frn := []) (compOk_of (relS scOutRB (defScope sReadB)) ["row"] rfl rfl (by decide +kernel)) rfl (pi_listK (K := K) rfl (pv 0))
        (fun _ _ _ _ => (pg_name (i := 0) (show (["word"] : List Str).Nodup by decide +kernel) rfl (Or.inl rfl))) (fun _ _ _ _ => pf_nil)
        (fun _ _ _ _ => (pe_callTy call_intS rfl B.int b_int (pa_cons (pv 0) pa_nil)))) pa_nil)))) pa_nil)) pa_nil))))
    (pss_cons (ps_if (pt_not (pt_val (pe_fn R.B OB3 r3 rfl (pa_cons (pv 4) pa_nil))))
      (pss_one (ps_raise (Z.ec 0 (by decide)) rfl (Z.mc 0 _ rfl) rfl (fun _ _ _ _ _ _ _ I m q => raised1 I m q)))
      pss_nil)
    (pss_one (ps_ret (pv 4)))))))))), ?_⟩
    have hne : prt t ≠ [] := (split_is k_sc.1 k_sc.2).1
    have hpl : (prt t).length ≤ t.length + 1 := split_len k_sc
    have hsum : ((prt t).map fun p => p.length + 1).sum ≤ t.length + 1 := split_sum k_sc
    have hsz : sizeLine = 16777216 := sizeLine_eq
    have haw := all_words t
    refine ⟨_, rfl, _, rfl, _, rfl, ?_⟩
    refine iteF ?_
    refine ⟨_, rfl, rfl, _, _, rfl, rfl, by decide +kernel, by omega, fun p1 hp1 => ?_⟩
    rw [show Txt.split t "; " = prt t from rfl]
    have s1 := Same.new (o := .lst ((prt t).map V.str)) hp1
    have e1 : upd H p1 (.lst ((prt t).map V.str)) p1 = some (.lst ((prt t).map V.str)) := upd_same
    generalize upd H p1 (.lst ((prt t).map V.str)) = H1 at s1 e1 ⊢
    refine ⟨p1, rfl, ⟨_, SqL.of e1⟩, comp_list (K := K) (a := p1) (xs := (prt t).map V.str) (fun σ => ∃ v, σ = [v]) (fun i zs H2 => Same H1 H2 ∧ DenAll K H2 ((((prt t).map wds).take i).map rowD) zs ∧ zs.length = i) (by rw [List.length_map]; omega) ⟨none, rfl⟩ ⟨Same.refl _, denAll_nil.mpr rfl, rfl⟩ (fun i zs H2 h => Nat.le_of_eq h.2.2) (fun i zs H2 h => h.1.seqL (SqL.of e1)) ?_ ?_⟩
    · rintro i zs σ x H2 hx ⟨v, rfl⟩ ⟨s2, hd, hl2⟩ hz
      rw [List.getElem?_map] at hx
      cases q : (prt t)[i]? with
      | none => rw [q] at hx; cases hx
      | some p =>
        rw [q] at hx
        obtain rfl : V.str p = x := Option.some.inj hx
        have hp := (prt_asc ha (List.mem_of_getElem? q)).2
        refine nameAll_go ?_
        refine ⟨_, rfl, rfl, _, _, rfl, rfl, by decide +kernel, by omega, fun p2 hp2 => ?_⟩
        refine ⟨hz, ⟨_, rfl⟩, s2.trans (Same.new hp2), ?_, by rw [List.length_append, hl2]; rfl⟩
        rw [List.take_succ, List.getElem?_map, q, List.map_append]
        exact denAll_append ((Same.new hp2).denAll _ _ hd) (denAll_cons.mpr ⟨_, _, rfl, den_strs.mpr ⟨p2, rfl, SqL.of upd_same⟩, denAll_nil.mpr rfl⟩)
    · rintro zs H2 ⟨s2, hd, hl2⟩ p2 hp2
      rw [List.length_map, ← List.length_map (f := wds), List.take_length] at hd
      have s3 := s2.trans (Same.new (o := .lst zs) hp2)
      have d3 := (Same.new (o := .lst zs) hp2).denAll _ _ hd
      have e3 : upd H2 p2 (.lst zs) p2 = some (.lst zs) := upd_same
      generalize upd H2 p2 (.lst zs) = H3 at s3 d3 e3 ⊢
      obtain ⟨p0, pr, hps⟩ : ∃ p0 pr, prt t = p0 :: pr := by
        cases e : prt t with
        | nil => exact absurd e hne
        | cons a b => exact ⟨a, b, rfl⟩
      have hp0 := prt_asc ha (show p0 ∈ prt t by rw [hps]; exact List.mem_cons_self ..)
      have hpr : ∀ p ∈ pr, Asc p ∧ p.length ≤ t.length := fun p hp => prt_asc ha (show p ∈ prt t by rw [hps]; exact List.mem_cons_of_mem _ hp)
      rw [hps] at d3
      obtain ⟨x0, xr, rfl, d0, dr⟩ := denAll_cons.mp (show DenAll K H3 (rowD (wds p0) :: (pr.map wds).map rowD) zs from d3)
      obtain ⟨q0, rfl, hq0⟩ := den_strs.mp d0
      have hTk : textOk t = (headOk (wds p0) && (pr.all fun p => rowOk (wds p))) := by unfold textOk; rw [hps]; rfl
      have hHk : handsOf t = numV (((wds p0)[1]?.getD Str.empty).cps.toList) := by unfold handsOf; rw [hps]; rfl
      have hWk : worksOf t = pr.map fun p => rowN (wds p) := by unfold worksOf; rw [hps]; rfl
      refine ⟨_, rfl, p2, _, _, rfl, SqL.of e3, fun p3 hp3 => ⟨_, _, rfl, _, _, rfl, rfl, ?_⟩⟩
      have s4 := Same.new (o := .lst xr) hp3
      have e4 : upd H3 p3 (.lst xr) p3 = some (.lst xr) := upd_same
      have d4 := s4.denAll _ _ dr
      have q4 := s4.seqL hq0
      have s04 := s1.trans (s3.trans s4)
      generalize upd H3 p3 (.lst xr) = H4 at s4 e4 d4 q4 s04 ⊢
      have hxr : xr.length = pr.length := by rw [denAll_length d4, List.length_map, List.length_map]
      have hprl : pr.length ≤ t.length := by rw [hps, List.length_cons] at hpl; omega
      refine ⟨_, rfl, q0, _, rfl, .inl q4, rfl, _, rfl, ?_⟩
      refine ite2 (fun c1 => ?_) (fun c1 => ?_)
      · have c1' : ¬ (wds p0).length = 2 := fun z => by
          rw [List.length_map, z] at c1
          exact absurd c1 (by decide)
        exact kT (by rw [hTk]; unfold headOk; rw [decide_eq_false c1']; rfl) _ s04
      have c1' : (wds p0).length = 2 := by
        rw [List.length_map] at c1
        by_cases z : (wds p0).length = 2
        · exact z
        · exfalso
          refine c1 ?_
          have z2 : ¬ ((wds p0).length : Int) = 2 := by omega
          simp [z2]
      obtain ⟨a, b, hab⟩ : ∃ a b, wds p0 = [a, b] := by
        cases e : wds p0 with
        | nil => rw [e] at c1'; cases c1'
        | cons a l => cases l with
          | nil => rw [e] at c1'; cases c1'
          | cons b l => cases l with
            | nil => exact ⟨a, b, rfl⟩
            | cons _ _ => rw [e] at c1'; simp at c1'
      rw [hab] at q4
      have hb := wds_asc hp0.1 (show b ∈ wds p0 by rw [hab]; simp)
      have hHd : headOk (wds p0) = (decide (a = ("hands" : Str)) && isNum b.cps.toList) := by
        rw [hab]
        show (true && (decide (some a = some ("hands" : Str)) && _)) = _
        rw [Bool.true_and]
        congr 1
        simp
      refine ⟨_, rfl, q0, _, 0, .str a, rfl, rfl, q4, rfl, rfl, _, rfl, ?_⟩
      refine ite2 (fun c2 => ?_) (fun c2 => ?_)
      · have c2' : ¬ a = ("hands" : Str) := fun z => by
          subst z
          exact absurd c2 (by simp)
        exact kT (by rw [hTk, hHd, decide_eq_false c2']; rfl) _ s04
      have c2' : a = ("hands" : Str) := by
        have : V.str a = V.str "hands" := by simpa using c2
        injection this
      refine ⟨_, rfl, q0, _, 1, .str b, rfl, rfl, q4, rfl, b, rfl, hb.1, by omega, fun H5 s5 => ⟨_, rfl, ?_⟩⟩
      have s05 := s04.trans s5
      refine ite2 (fun c3 => ?_) (fun c3 => ?_)
      · have c3' : isNum b.cps.toList = false := by simpa using c3
        exact kT (by rw [hTk, hHd, c3', Bool.and_false]; rfl) _ s05
      have c3' : isNum b.cps.toList = true := by
        cases e : isNum b.cps.toList with
        | true => rfl
        | false => rw [e] at c3; exact absurd rfl c3
      have hHt : headOk (wds p0) = true := by rw [hHd, decide_eq_true c2', c3']; rfl
      have d5 := s5.denAll _ _ d4
      have e5 := s5 _ _ e4
      have q5 := s5.seqL q4
      have row5 : ∀ {H'} (j : Nat) (x : V), Same H5 H' → xr[j]? = some x → ∃ p q, pr[j]? = some p ∧ x = .ref q ∧ SqL K H' q ((wds p).map V.str) ∧ Asc p ∧ p.length ≤ t.length := fun {H'} j x s' hx => by
        obtain ⟨dv, hdv, denv⟩ := denAll_at (s'.denAll _ _ d5) hx
        rw [List.getElem?_map, List.getElem?_map] at hdv
        cases q : pr[j]? with
        | none => rw [q] at hdv; cases hdv
        | some p =>
          rw [q] at hdv
          obtain rfl : rowD (wds p) = dv := Option.some.inj hdv
          obtain ⟨a, rfl, ha⟩ := den_strs.mp denv
          exact ⟨p, a, rfl, rfl, ha, hpr p (List.mem_of_getElem? q)⟩
      refine ⟨_, rfl, p3, rfl, ⟨_, SqL.of e5⟩, comp2_it (J := Itl K p3) (n := pr.length) (vss := pr.map fun p => (wds p).map fun y => V.bl (isNum y.cps.toList)) (fun σ => ∃ v0 v1, σ = [v0, v1]) ?_ (by rw [List.length_map]) ⟨_, _, rfl⟩ (fun H' s' => ⟨xr, s'.seqL (SqL.of e5), by omega⟩) (fun i H' hi s' => ⟨xr, xr[i]'(by omega), s'.seqL (SqL.of e5), List.getElem?_eq_getElem _⟩) ?_ ?_⟩
      · have h1 := flat_len (fun p : Str => (wds p).map fun y => V.bl (isNum y.cps.toList)) (fun p => (wds p).length) pr fun p _ => by rw [List.length_map]; exact Nat.le_refl _
        rw [hps, List.map_cons, List.sum_cons] at haw
        omega
      · rintro i vs x σ H6 H7 hi hv ⟨v0, v1, rfl⟩ s6 ⟨rfl, hy⟩ P' hP
        obtain ⟨p, q, hl', rfl, hq, w1, w2⟩ := row5 i x s6 (hy _ (s6.seqL (SqL.of e5)))
        rw [List.getElem?_map, hl'] at hv
        obtain rfl : ((wds p).map fun y => V.bl (isNum y.cps.toList)) = vs := Option.some.inj hv
        refine ⟨_, rfl, q, rfl, ⟨_, hq⟩, hP _ _ _ (Same.refl _) ⟨fun σ => ∃ v1, σ = [some (.ref q), v1], ⟨_, rfl⟩, fun σ3 ⟨_, e⟩ => ⟨_, _, e⟩, fun H' s' => ⟨_, s'.seqL hq, by rw [List.length_map, List.length_map]; exact Nat.le_refl _⟩, fun j H' hj s' => ⟨(wds p).map V.str, ((wds p).map V.str)[j]'(by rw [List.length_map] at hj; rw [List.length_map]; exact hj), s'.seqL hq, List.getElem?_eq_getElem _⟩, ?_⟩⟩
        rintro j v yv σ3 H8 H9 hvj ⟨v2', rfl⟩ s8 ⟨rfl, hy2⟩ Q' hQ'
        have hyv := hy2 _ (s8.seqL hq)
        rw [List.getElem?_map] at hyv hvj
        cases q2 : (wds p)[j]? with
        | none => rw [q2] at hyv; cases hyv
        | some o =>
          rw [q2] at hyv hvj
          obtain rfl : V.str o = yv := Option.some.inj hyv
          obtain rfl : V.bl (isNum o.cps.toList) = v := Option.some.inj hvj
          have ho := wds_asc w1 (List.mem_of_getElem? q2)
          exact ⟨_, rfl, o, rfl, ho.1, by omega, fun H10 s10 => hQ' _ _ ⟨_, rfl⟩ s10⟩
      · rintro H6 s6 z hz
        refine ⟨z, (pr.map fun p => (wds p).map fun y => isNum y.cps.toList).flatten, rfl, SqL.of ?_, _, rfl, ?_⟩
        · rw [upd_same, List.map_flatten, List.map_map]
          congr 3
          refine List.map_congr_left fun l _ => ?_
          show _ = List.map V.bl (List.map (fun y => isNum y.cps.toList) (wds l))
          rw [List.map_map]
          rfl
        have hall : ((pr.map fun p => (wds p).map fun y => isNum y.cps.toList).flatten).all id = (pr.all fun p => rowOk (wds p)) := by
          rw [List.all_flatten, List.all_map]
          congr 1
          funext p
          show (List.map (fun y => isNum y.cps.toList) (wds p)).all id = rowOk (wds p)
          rw [List.all_map]
          rfl
        rw [hall]
        have s7 := s6.trans (Same.new (o := .lst (List.map (fun p => List.map (fun y => V.bl (isNum y.cps.toList)) (wds p)) pr).flatten) hz)
        have q7 := s7.seqL q5
        have e7 := s7 _ _ e5
        generalize upd H6 z (.lst (List.map (fun p => List.map (fun y => V.bl (isNum y.cps.toList)) (wds p)) pr).flatten) = H7 at s7 q7 e7 ⊢
        refine ite2 (fun c4 => ?_) (fun c4 => ?_)
        · have c4' : (pr.all fun p => rowOk (wds p)) = false := by simpa using c4
          exact kT (by rw [hTk, c4', Bool.and_false]) _ (s05.trans s7)
        have c4' : (pr.all fun p => rowOk (wds p)) = true := by
          cases e : (pr.all fun p => rowOk (wds p)) with
          | true => rfl
          | false => rw [e] at c4; exact absurd rfl c4
        have hTt : textOk t = true := by rw [hTk, hHt, c4']; rfl
        have hnum : ∀ p ∈ pr, ∀ y ∈ wds p, isNum y.cps.toList = true := fun p hp y hy => List.all_eq_true.mp (List.all_eq_true.mp c4' p hp) y hy
        obtain ⟨nr, nr0, nr1, nr2⟩ := num_reads c3'
        have hHv : handsOf t = numV b.cps.toList := by rw [hHk, hab]; rfl
        refine ⟨_, rfl, q0, _, 1, .str b, rfl, rfl, q7, rfl, _, numV b.cps.toList, rfl, nr, by omega, ?_⟩
        refine ⟨_, rfl, p3, rfl, ⟨_, SqL.of e7⟩, comp_list (K := K) (a := p3) (xs := xr) (fun σ => ∃ v, σ = [v]) (fun i zs H8 => Same H7 H8 ∧ DenAll K H8 (((worksOf t).take i).map workD) zs ∧ zs.length = i) (by omega) ⟨none, rfl⟩ ⟨Same.refl _, denAll_nil.mpr rfl, rfl⟩ (fun i zs H8 h => Nat.le_of_eq h.2.2) (fun i zs H8 h => h.1.seqL (SqL.of e7)) ?_ ?_⟩
        · rintro i zs σ x H8 hx ⟨v, rfl⟩ ⟨s8, hd8, hl8⟩ hz8
          obtain ⟨p, q, hl', rfl, hq, w1, w2⟩ := row5 i x (s7.trans s8) hx
          have hwl : (wds p).length ≤ 901 := by
            have := mem_sum (fun p : Str => (wds p).length) (show p ∈ prt t by rw [hps]; exact List.mem_cons_of_mem _ (List.mem_of_getElem? hl'))
            omega
          refine nameAll_go ?_
          refine ⟨_, rfl, q, rfl, ⟨_, hq⟩, comp_fnL (K := K) (a := q) (xs := (wds p).map V.str) (vs := (rowN (wds p)).map V.int) (fun σ => ∃ v, σ = [v]) (by rw [List.length_map]; omega) (by unfold rowN; rw [List.length_map, List.length_map, List.length_map]) hq ⟨none, rfl⟩ ?_ ?_⟩
          · rintro m xv v σ H9 hxv hv ⟨v0, rfl⟩ s9 Q2 hQ2
            rw [List.getElem?_map] at hxv hv
            unfold rowN at hv
            rw [List.getElem?_map] at hv
            cases q2 : (wds p)[m]? with
            | none => rw [q2] at hxv; cases hxv
            | some o =>
              rw [q2] at hxv hv
              obtain rfl : V.str o = xv := Option.some.inj hxv
              obtain rfl : V.int (numV o.cps.toList) = v := Option.some.inj hv
              obtain ⟨m1, m2, m3, m4⟩ := num_reads (hnum p (List.mem_of_getElem? hl') o (List.mem_of_getElem? q2))
              exact ⟨_, rfl, _, _, rfl, m1, by omega, hQ2 _ _ ⟨_, rfl⟩ (Same.refl _)⟩
          · rintro H9 s9 z9 hz9
            refine ⟨z9, _, rfl, .inl ⟨SqL.of upd_same, fun t9 ht9 => ?_⟩⟩
            have s10 := s9.trans ((Same.new (o := .lst ((rowN (wds p)).map V.int)) hz9).trans (Same.new (o := .tup ((rowN (wds p)).map V.int)) ht9))
            refine ⟨hz8, ⟨_, rfl⟩, s8.trans s10, ?_, by rw [List.length_append, hl8]; rfl⟩
            rw [List.take_succ, hWk, List.getElem?_map, hl', List.map_append]
            rw [hWk] at hd8
            exact denAll_append (s10.denAll _ _ hd8) (denAll_cons.mpr ⟨_, _, rfl, den_tints.mpr ⟨t9, rfl, SqT.of upd_same⟩, denAll_nil.mpr rfl⟩)
        · rintro zs H8 ⟨s8, hd8, hl8⟩ z8 hz8
          have hwl : (worksOf t).length = xr.length := by rw [hWk, List.length_map, hxr]
          rw [← hwl, List.take_length] at hd8
          refine ⟨z8, _, rfl, .inl ⟨SqL.of upd_same, fun t8 ht8 => ⟨sz2 _ _, fun b8 hb8 => ?_⟩⟩⟩
          rw [← hHv]
          have s9 := (Same.new (o := .lst zs) hz8).trans ((Same.new (o := .tup zs) ht8).trans (Same.new (o := .tup [.int (handsOf t), .ref t8]) hb8))
          have et : upd (upd (upd H8 z8 (.lst zs)) t8 (.tup zs)) b8 (.tup [.int (handsOf t), .ref t8]) t8 = some (.tup zs) := (Same.new hb8) _ _ upd_same
          have db : Den K (upd (upd (upd H8 z8 (.lst zs)) t8 (.tup zs)) b8 (.tup [.int (handsOf t), .ref t8])) (bookD (handsOf t) (worksOf t)) (.ref b8) := den_tuple.mpr ⟨b8, _, rfl, SqT.of upd_same, denAll_cons.mpr ⟨_, _, rfl, den_int.mpr rfl, denAll_cons.mpr ⟨_, _, rfl, den_tuple.mpr ⟨t8, zs, rfl, SqT.of et, s9.denAll _ _ hd8⟩, denAll_nil.mpr rfl⟩⟩⟩
          generalize upd (upd (upd H8 z8 (.lst zs)) t8 (.tup zs)) b8 (.tup [.int (handsOf t), .ref t8]) = H9 at s9 db ⊢
          refine ⟨_, rfl, _, _, rfl, db, fun H10 s10 => ⟨_, rfl, ?_⟩⟩
          have s010 := s05.trans (s7.trans (s8.trans (s9.trans s10)))
          cases hbk : isBook (bookD (handsOf t) (worksOf t)) with
          | false => exact iteT (kB hTt hbk _ s010)
          | true =>
            refine iteF ?_
            exact ⟨_, rfl, kQ hTt hbk b8 H10 s010 (s10.den _ _ db)⟩
end
end Ab
set_option Elab.async false
set_option linter.all false
set_option maxRecDepth 100000
namespace Ab
open PySem L2
def hs6 : List Nat := [104, 97, 110, 100, 115, 32]
theorem hs_list : ("hands " : Str).cps.toList = hs6 ∧ ("hands" : Str).cps.toList = [104, 97, 110, 100, 115] ∧ (" " : Str).cps.toList = [32] := by decide +kernel
theorem num_no32 {l : List Nat} (h : isNum l = true) : 32 ∉ l := fun z => by
  unfold isNum at h
  rw [Bool.and_eq_true, Bool.and_eq_true, Bool.and_eq_true] at h
  have := List.all_eq_true.mp h.2.2 32 z
  exact absurd this (by decide)
theorem head_two {p a b : Str} (h : wds p = [a, b]) : p.cps.toList = a.cps.toList ++ [32] ++ b.cps.toList := by
  obtain ⟨_, h2, _⟩ := split_is (x := p) k_sp.1 k_sp.2
  rw [show Txt.split p " " = [a, b] from h, hs_list.2.2] at h2
  exact h2.symm
theorem head_iff (p : Str) : headOk (wds p) = (decide (p.cps.toList.take 6 = hs6) && isNum (p.cps.toList.drop 6)) ∧ (headOk (wds p) = true → ((wds p)[1]?.getD Str.empty).cps.toList = p.cps.toList.drop 6) := by
  have fwd : headOk (wds p) = true → p.cps.toList.take 6 = hs6 ∧ isNum (p.cps.toList.drop 6) = true ∧ ((wds p)[1]?.getD Str.empty).cps.toList = p.cps.toList.drop 6 := fun h => by
    unfold headOk at h
    rw [Bool.and_eq_true, Bool.and_eq_true] at h
    obtain ⟨h1, h2, h3⟩ := h
    have h1 := of_decide_eq_true h1
    have h2 := of_decide_eq_true h2
    cases e : wds p with
    | nil => rw [e] at h1; cases h1
    | cons a l => cases l with
      | nil => rw [e] at h1; cases h1
      | cons b l => cases l with
        | cons _ _ => rw [e] at h1; simp at h1
        | nil =>
          rw [e] at h2 h3
          obtain rfl : a = "hands" := by simpa using h2
          have hp := head_two e
          rw [hs_list.2.1] at hp
          rw [hp]
          exact ⟨rfl, h3, rfl⟩
  refine ⟨?_, fun h => (fwd h).2.2⟩
  cases c : (decide (p.cps.toList.take 6 = hs6) && isNum (p.cps.toList.drop 6)) with
  | true =>
    rw [Bool.and_eq_true] at c
    have c1 := of_decide_eq_true c.1
    have hp : p = (" " : Str).join [("hands" : Str), ⟨(p.cps.toList.drop 6).toArray⟩] := by
      refine str_ext ?_
      rw [join_list, hs_list.2.2]
      show _ = ("hands" : Str).cps.toList ++ [32] ++ (p.cps.toList.drop 6)
      rw [hs_list.2.1]
      conv => lhs; rw [← List.take_append_drop 6 p.cps.toList, c1]
      rfl
    have e : wds p = [("hands" : Str), ⟨(p.cps.toList.drop 6).toArray⟩] := by
      have := split_join (sep := " ") (c := 32) (s' := []) hs_list.2.2 k_sp.1 (ps := [("hands" : Str), ⟨(p.cps.toList.drop 6).toArray⟩]) (by simp) fun q hq => by
        rcases List.mem_cons.mp hq with rfl | hq
        · decide +kernel
        · rw [List.mem_singleton.mp hq]
          exact num_no32 c.2
      rw [← hp] at this
      exact this
    rw [e]
    show (true && (decide (some ("hands" : Str) = some ("hands" : Str)) && isNum (p.cps.toList.drop 6))) = true
    rw [c.2]
    simp
  | false =>
    cases h : headOk (wds p) with
    | false => rfl
    | true =>
      obtain ⟨h1, h2, _⟩ := fwd h
      rw [h1, h2] at c
      exact absurd c (by simp)
def Good (t : Str) : Prop := t.cps.toList.take 6 = hs6 → ∀ p ∈ (prt t).tail, (wds p).length ≤ 18
theorem head_pre (t : Str) : ((prt t).headD Str.empty).cps.toList <+: t.cps.toList := by
  obtain ⟨h1, h2, _⟩ := split_is (x := t) k_sc.1 k_sc.2
  have h1' : prt t ≠ [] := h1
  have h2' : jn ("; " : Str).cps.toList ((prt t).map (·.cps.toList)) = t.cps.toList := h2
  cases e : prt t with
  | nil => exact absurd e h1'
  | cons a l =>
    rw [e] at h2'
    rw [← h2']
    cases l with
    | nil => exact List.prefix_refl _
    | cons b l => exact ⟨("; " : Str).cps.toList ++ jn ("; " : Str).cps.toList ((b :: l).map (·.cps.toList)), by show _ = a.cps.toList ++ _ ++ _; rw [List.append_assoc]; rfl⟩
theorem good_head {t : Str} (h : Good t) (e : ((prt t).headD Str.empty).cps.toList.take 6 = hs6) : ∀ p ∈ (prt t).tail, (wds p).length ≤ 18 := h (by
  obtain ⟨r, hr⟩ := head_pre t
  rw [← hr]
  rw [List.take_append_of_le_length]
  · exact e
  · have := congrArg List.length e
    rw [List.length_take] at this
    have h6 : hs6.length = 6 := rfl
    omega)
theorem sorted_uniq : ∀ {a b : List Int}, a.Pairwise (· < ·) → b.Pairwise (· < ·) → (∀ k, k ∈ a ↔ k ∈ b) → a = b
  | [], [], _, _, _ => rfl
  | [], y :: b, _, _, h => absurd ((h y).mpr (List.mem_cons_self ..)) (by simp)
  | x :: a, [], _, _, h => absurd ((h x).mp (List.mem_cons_self ..)) (by simp)
  | x :: a, y :: b, ha, hb, h => by
    rw [List.pairwise_cons] at ha hb
    have e : x = y := by
      have h1 := (h x).mp (List.mem_cons_self ..)
      have h2 := (h y).mpr (List.mem_cons_self ..)
      rcases List.mem_cons.mp h1 with e | h1
      · exact e
      · rcases List.mem_cons.mp h2 with e | h2
        · exact e.symm
        · have := ha.1 y h2
          have := hb.1 x h1
          omega
    subst e
    rw [sorted_uniq ha.2 hb.2 fun k => ?_]
    constructor
    · intro hk
      rcases List.mem_cons.mp ((h k).mp (List.mem_cons_of_mem _ hk)) with e | z
      · have := ha.1 k hk; omega
      · exact z
    · intro hk
      rcases List.mem_cons.mp ((h k).mpr (List.mem_cons_of_mem _ hk)) with e | z
      · have := hb.1 k hk; omega
      · exact z
theorem work_iff {n : Int} {l out : List Int} (h0 : l ≠ []) (h1 : ∀ x ∈ l, 0 ≤ x) (hs : IsSorted out l) : isWork n (workD l) = (decide (l = out) && decide (l.getLast h0 < n)) := by
  cases c : (decide (l = out) && decide (l.getLast h0 < n)) with
  | true =>
    rw [Bool.and_eq_true] at c
    have c1 := of_decide_eq_true c.1
    have c2 := of_decide_eq_true c.2
    have hp : l.Pairwise (· < ·) := by rw [c1]; exact hs.1
    refine work_of h0 (fun x hx => ⟨h1 x hx, ?_⟩) hp
    have e := List.dropLast_concat_getLast h0
    rw [← e] at hp hx
    rw [List.pairwise_append] at hp
    rcases List.mem_append.mp hx with hx | hx
    · have := hp.2.2 x hx _ (List.mem_singleton_self _); omega
    · rw [List.mem_singleton.mp hx]; exact c2
  | false =>
    cases h : isWork n (workD l) with
    | false => rfl
    | true =>
      obtain ⟨w1, w2, w3⟩ := work_parts h
      rw [decide_eq_true (sorted_uniq w3 hs.1 fun k => (hs.2 k).symm), decide_eq_true (w2 _ (List.getLast_mem h0)).2] at c
      exact absurd c (by simp)
end Ab
set_option Elab.async false
set_option linter.all false
set_option maxRecDepth 100000
namespace Ab
open PySem L2
theorem b_any : bootBuiltins "any" = some (.builtin "any") := by decide +kernel
theorem eqvAll_ints : ∀ (a b : List Int), PyData.eqvAll (a.map .int) (b.map .int) = decide (a = b)
  | [], [] => by simp [PyData.eqvAll]
  | [], _ :: _ => by simp [PyData.eqvAll]
  | _ :: _, [] => by simp [PyData.eqvAll]
  | x :: r, y :: s => by
    rw [List.map_cons, List.map_cons, PyData.eqvAll, eqvAll_ints r s, PyData.eqv]
    by_cases h : x = y
    · by_cases h2 : r = s
      · simp [h, h2]
      · simp [h, h2]
    · simp [h]
theorem eqv_lints (a b : List Int) : PyData.eqv (.list (a.map .int)) (.list (b.map .int)) = decide (a = b) := by rw [PyData.eqv, eqvAll_ints]
theorem atI_head {α : Type} (x : α) (l : List α) : atI (x :: l) 0 = some x := by
  unfold atI ixN
  simp
theorem cut1 {α : Type} (f : α → V) (x : α) (l : List α) : cutV ((x :: l).map f) (some 1) none = l.map f := by
  unfold cutV
  have e1 : HT.sIx ((x :: l).map f).length 0 (some 1) = 1 := by
    unfold HT.sIx
    simp
  have e2 : HT.sIx ((x :: l).map f).length ((x :: l).map f).length none = ((x :: l).map f).length := rfl
  rw [e1, e2]
  show List.take _ (l.map f) = _
  exact List.take_of_length_le (by simp)
theorem atI_last {α : Type} {l : List α} (h : l ≠ []) : atI l (-1) = some (l.getLast h) := by
  have hl : 0 < l.length := List.length_pos_iff.mpr h
  unfold atI ixN
  rw [if_neg (by decide)]
  rw [if_pos (by omega)]
  show l[_]? = _
  rw [List.getLast_eq_getElem, show ((-1 : Int) + (l.length : Int)).toNat = l.length - 1 by omega]
  exact List.getElem?_eq_getElem _
theorem none_in (u : List Str) : inV .non (u.map fun y => numO y.cps.toList) = !rowOk u := by
  unfold inV rowOk
  rw [List.any_map]
  induction u with
  | nil => rfl
  | cons y u ih =>
    rw [List.any_cons, List.all_cons, ih]
    show (eqV (numO y.cps.toList) .non || _) = _
    unfold numO
    cases isNum y.cps.toList <;> simp [eqV]
theorem row_flat (u : List Str) : (u.map fun y => numO y.cps.toList).all flatV = true := by
  rw [List.all_map, List.all_eq_true]
  intro y _
  show flatV (numO y.cps.toList) = true
  unfold numO
  split <;> rfl
theorem row_ints {u : List Str} (h : rowOk u = true) : (u.map fun y => numO y.cps.toList) = (rowN u).map V.int := by
  unfold rowN
  rw [List.map_map]
  refine List.map_congr_left fun y hy => ?_
  have := List.all_eq_true.mp h y hy
  show numO y.cps.toList = V.int (numV y.cps.toList)
  unfold numO
  rw [if_pos this]
theorem rowN_ne (p : Str) : rowN (wds p) ≠ [] := fun z => by
  have h1 : (rowN (wds p)).length = (wds p).length := by unfold rowN; rw [List.length_map]
  rw [z, wds_len] at h1
  cases h1
theorem rowN_pos (u : List Str) : ∀ x ∈ rowN u, 0 ≤ x := fun x hx => by
  obtain ⟨y, _, rfl⟩ := List.mem_map.mp hx
  exact Int.natCast_nonneg _
theorem denAll_pt {K : PySem.W.Frag} {H : Hp} : ∀ {ds : List PyData} {xs : List V}, xs.length = ds.length → (∀ (j : Nat) d x, ds[j]? = some d → xs[j]? = some x → Den K H d x) → DenAll K H ds xs
  | [], [], _, _ => denAll_nil.mpr rfl
  | [], _ :: _, h, _ => by cases h
  | _ :: _, [], h, _ => by cases h
  | d :: ds, x :: xs, h, g => denAll_cons.mpr ⟨x, xs, rfl, g 0 d x rfl rfl, denAll_pt (by simpa using h) fun j d' x' h1 h2 => g (j + 1) d' x' h1 h2⟩
def dueD (t : Str) : PyData := if textOk t = true then (if isBook (bookD (handsOf t) (worksOf t)) = true then .tuple [.str "told", bookD (handsOf t) (worksOf t)] else .tuple [.str "book", .none]) else .tuple [.str "text", .none]
section
variable {P : Program} {w : World} {K : PySem.W.Frag} {mg : Str → Option Value} {base : Heap}
def spDue (K : PySem.W.Frag) : Sp := fun vs H Q _ => ∃ t : Str, vs = [.str t] ∧ Asc t ∧ t.length ≤ 10000 ∧ t.cps.toList.count 32 ≤ 900 ∧ Good t ∧ ∀ p H', Same H H' → Den K H' (dueD t) (.ref p) → Q (.ref p) H'
theorem scDue : FnScope ["text", "parts", "hands", "works", "part", "work"] ["text"] (defScope sDue) := ⟨rfl, rfl, rfl, by decide +kernel, rfl, by decide +kernel, by decide +kernel⟩
set_option maxHeartbeats 4000000 in
theorem ok_due {f fN : Addr} {fd dN : FuncData} (G : Fn K mg "_law_e_due" sDue ["text"] f fd) (B : Bl mg) (GNu : Fn K mg "_law_e_number" sNum ["word"] fN dN) : FnOk P w K mg base CX0 2 f fd ["text"] (spDue K) := by
  have ONu : FnOk P w K mg base CX0 1 fN dN ["word"] spNum := ok_num GNu B
  refine G.fn.ok scDue (fun vs H Q E h => ?_) (fun cdv A outer s H vs Q E hr h => ?_)
  · obtain ⟨t, rfl, _⟩ := h
    rfl
  · obtain ⟨t, rfl, ha, hl, hcn, hgd, k⟩ := h
    have r1 : Room 1 _ := hr
    refine ⟨_, (pss_cons (ps_set (i := 1) scDue.nd rfl (Or.inl rfl) (pe_bmK (K := K) rfl PySem.F.plainAttrs_str PySem.F.slot_str_split PySem.F.type_str_split mt_split (pv 0) (pa_cons pe_str pa_nil)))
    (pss_cons (ps_if (pt_cmpR op_ne (pe_slice sl_str (pe_ix ix_list (pv 1) pe_int (fun _ _ => rfl)) po_none (po_some pe_int)) pe_str (nomark _))
      (pss_one (ps_ret (pe_tup (pa_cons pe_str (pa_cons pe_non pa_nil)))))
      pss_nil)
    (pss_cons (ps_set (i := 2) scDue.nd rfl (Or.inl rfl) (pe_fn GNu ONu r1 rfl (pa_cons (pe_slice sl_str (pe_ix ix_list (pv 1) pe_int (fun _ _ => rfl)) (po_some pe_int) po_none) pa_nil)))
    (pss_cons (ps_set (i := 3) scDue.nd rfl (Or.inl rfl) (pe_lst pa_nil))
    (pss_cons (ps_for PassesOwn.never rfl (pi_list (pe_slice sl_list (pv 1) (po_some pe_int) po_none)) (pg_name (i := 4) scDue.nd rfl (Or.inl rfl))
      (pss_one (ps_expr (pe_bm PySem.F.plainAttrs_list PySem.F.slot_list_append PySem.F.type_list_append mt_append (pv 3) (pa_cons (pe_callTy call_tuple_of rfl B.tuple b_tuple (pa_cons (pe_comp (own := ["word"]) (fr := []) (frn := []) (compOk_of (defScope sDue) ["text", "parts", "hands", "works", "part", "work"] rfl rfl (by decide +kernel)) rfl (pi_list (pe_bmK (K := K) rfl PySem.F.plainAttrs_str PySem.F.slot_str_split PySem.F.type_str_split mt_split (pv 4) (pa_cons pe_str pa_nil)))
        (fun _ _ _ _ => (pg_name (i := 0) (show (["word"] : List Str).Nodup by decide +kernel) rfl (Or.inl rfl))) (fun _ _ _ _ => pf_nil)
        (fun _ _ _ _ => (pe_fn GNu ONu r1 rfl (pa_cons (pv 0) pa_nil)))) pa_nil)) pa_nil)))))
    (pss_cons (ps_if (PW.pt (pw_or (pt_cmpR op_isN (pv 2) pe_non (nomark _)) (pw_or1 (pt_val (pe_callB (call_any rfl) rfl B.any b_any (pa_cons (pe_comp (own := ["work"]) (fr := []) (frn := []) (compOk_of (defScope sDue) ["text", "parts", "hands", "works", "part", "work"] rfl rfl (by decide +kernel)) rfl (pi_list (pv 3))
        (fun _ _ _ _ => (pg_name (i := 0) (show (["work"] : List Str).Nodup by decide +kernel) rfl (Or.inl rfl))) (fun _ _ _ _ => pf_nil)
        (fun _ _ _ _ => (pe_cmpR (op_in_seqK (K := K) rfl) pe_non (pv 0) (by with_unfolding_all rfl)))) pa_nil))))))
      (pss_one (ps_ret (pe_tup (pa_cons pe_str (pa_cons pe_non pa_nil)))))
      pss_nil)
    (pss_cons (ps_if (PW.pt (pw_or (pt_cmpR op_lt (pv 2) pe_int (nomark _)) (pw_or (pt_cmpR op_gt (pv 2) pe_int (nomark _)) (pw_or1 (pt_cmpR op_gt (pe_callB call_len_seq rfl B.len b_len (pa_cons (pv 3) pa_nil)) pe_int (nomark _))))))
      (pss_one (ps_ret (pe_tup (pa_cons pe_str (pa_cons pe_non pa_nil)))))
      pss_nil)
    (pss_cons (ps_for PassesOwn.never rfl (pi_list (pv 3)) (pg_name (i := 5) scDue.nd rfl (Or.inl rfl))
      (pss_one (ps_if (PW.pt (pw_or (pt_cmpR (op_neD hr.u64) (pe_callTy call_list_of rfl B.list b_list (pa_cons (pv 5) pa_nil)) (pe_callB (call_sortedI18 rfl) rfl B.sorted b_sorted (pa_cons (pe_callTy (call_setT18 (K := K) rfl rfl) rfl B.set b_set (pa_cons (pv 5) pa_nil)) pa_nil)) (nomark _)) (pw_or1 (pt_cmpR op_ge (pe_ix ix_tup (pv 5) (pe_un un_neg pe_int) (fun _ _ => rfl)) (pv 2) (nomark _)))))
      (pss_one (ps_ret (pe_tup (pa_cons pe_str (pa_cons pe_non pa_nil)))))
      pss_nil)))
    (pss_one (ps_ret (pe_tup (pa_cons pe_str (pa_cons (pe_tup (pa_cons (pv 2) (pa_cons (pe_callTy call_tuple_of rfl B.tuple b_tuple (pa_cons (pv 3) pa_nil)) pa_nil))) pa_nil))))))))))))), ?_⟩
    have hne : prt t ≠ [] := (split_is k_sc.1 k_sc.2).1
    have hpl : (prt t).length ≤ t.length + 1 := split_len k_sc
    have hsz : sizeLine = 16777216 := sizeLine_eq
    have haw := all_words t
    obtain ⟨p0, pr, hps⟩ : ∃ p0 pr, prt t = p0 :: pr := by
      cases e : prt t with
      | nil => exact absurd e hne
      | cons a b => exact ⟨a, b, rfl⟩
    have hprl : pr.length ≤ t.length := by rw [hps, List.length_cons] at hpl; omega
    have hpn : (prt t).length ≤ 901 := by
      have h1 := sum_ge (fun p : Str => p.cps.toList.count 32) (prt t)
      rw [show ((prt t).map fun p : Str => p.cps.toList.count 32 + 1) = (prt t).map fun p => (wds p).length from List.map_congr_left fun p _ => (wds_len p).symm] at h1
      omega
    have hprn : pr.length ≤ 900 := by rw [hps, List.length_cons] at hpn; omega
    have hp0 := prt_asc ha (show p0 ∈ prt t by rw [hps]; exact List.mem_cons_self ..)
    have hpr : ∀ p ∈ pr, Asc p ∧ p.length ≤ t.length := fun p hp => prt_asc ha (show p ∈ prt t by rw [hps]; exact List.mem_cons_of_mem _ hp)
    have hTk : textOk t = (headOk (wds p0) && (pr.all fun p => rowOk (wds p))) := by unfold textOk; rw [hps]; rfl
    have hHk : handsOf t = numV (((wds p0)[1]?.getD Str.empty).cps.toList) := by unfold handsOf; rw [hps]; rfl
    have hWk : worksOf t = pr.map fun p => rowN (wds p) := by unfold worksOf; rw [hps]; rfl
    obtain ⟨hi1, hi2⟩ := head_iff p0
    have kT : ∀ {H2}, Same H H2 → textOk t = false → ∀ p, H2 p = none → Q (.ref p) (upd H2 p (.tup [.str "text", .non])) := fun {H2} s2 e p hp => by
      refine k p _ (s2.trans (Same.new hp)) ?_
      rw [show dueD t = .tuple [.str "text", .none] by unfold dueD; rw [e]; rfl]
      exact den_tuple.mpr ⟨p, _, rfl, SqT.of upd_same, denAll_cons.mpr ⟨_, _, rfl, den_str.mpr rfl, denAll_cons.mpr ⟨_, _, rfl, den_none.mpr rfl, denAll_nil.mpr rfl⟩⟩⟩
    have kB : ∀ {H2}, Same H H2 → textOk t = true → isBook (bookD (handsOf t) (worksOf t)) = false → ∀ p, H2 p = none → Q (.ref p) (upd H2 p (.tup [.str "book", .non])) := fun {H2} s2 e e2 p hp => by
      refine k p _ (s2.trans (Same.new hp)) ?_
      rw [show dueD t = .tuple [.str "book", .none] by unfold dueD; rw [e, e2]; rfl]
      exact den_tuple.mpr ⟨p, _, rfl, SqT.of upd_same, denAll_cons.mpr ⟨_, _, rfl, den_str.mpr rfl, denAll_cons.mpr ⟨_, _, rfl, den_none.mpr rfl, denAll_nil.mpr rfl⟩⟩⟩
    refine ⟨_, rfl, rfl, _, _, rfl, rfl, by decide +kernel, by omega, fun p1 hp1 => ?_⟩
    rw [show Txt.split t "; " = prt t from rfl, hps]
    have s1 := Same.new (o := .lst ((p0 :: pr).map V.str)) hp1
    have e1 : upd H p1 (.lst ((p0 :: pr).map V.str)) p1 = some (.lst ((p0 :: pr).map V.str)) := upd_same
    generalize upd H p1 (.lst ((p0 :: pr).map V.str)) = H1 at s1 e1 ⊢
    have hz0 : p0.length ≤ sizeLine := by omega
    refine ⟨_, rfl, p1, _, 0, .str p0, rfl, rfl, SqL.of e1, atI_head _ _, 6, rfl, p0, rfl, hz0, rfl, _, rfl, ?_⟩
    have hto := slice_to p0 (j := 6) (by decide)
    have hfr := slice_from p0 (i := 6) (by decide)
    refine ite2 (fun c1 => ?_) (fun c1 => ?_)
    · have c1' : ¬ p0.cps.toList.take 6 = hs6 := fun z => by
        have e : Txt.slice p0 none (some 6) = "hands " := str_ext (by rw [hto, hs_list.1]; exact z)
        rw [e] at c1
        exact absurd c1 (by simp)
      exact ⟨sz2 _ _, fun p hp => kT s1 (by rw [hTk, hi1, decide_eq_false c1']; rfl) p hp⟩
    have c1' : p0.cps.toList.take 6 = hs6 := by
      have e : V.str (Txt.slice p0 none (some 6)) = V.str "hands " := by simpa using c1
      injection e with e
      rw [show (6 : Int).toNat = 6 from rfl] at hto
      rw [← hto, e, hs_list.1]
    have hrow : ∀ p ∈ pr, (wds p).length ≤ 18 := fun p hp => good_head hgd (by rw [hps]; exact c1') p (by rw [hps]; exact hp)
    have hsa : Asc (Txt.slice p0 (some 6) none) ∧ (Txt.slice p0 (some 6) none).length ≤ p0.length := asc_inf hp0.1 (by rw [hfr]; exact (List.drop_suffix _ _).isInfix)
    refine ⟨_, rfl, p1, _, 0, .str p0, rfl, rfl, SqL.of e1, atI_head _ _, 6, rfl, p0, rfl, hz0, _, rfl, hsa.1, by omega, fun H2 s2 => ?_⟩
    have hfr' : (Txt.slice p0 (some 6) none).cps.toList = p0.cps.toList.drop 6 := hfr
    rw [hfr']
    generalize hv2 : numO (p0.cps.toList.drop 6) = v2
    have s02 := s1.trans s2
    have e2 := s2 _ _ e1
    refine ⟨by rw [hsz]; decide, fun p3 hp3 => ?_⟩
    have s3 := Same.new (o := .lst []) hp3
    have e3 := s3 _ _ e2
    refine ⟨_, rfl, 1, rfl, p1, _, rfl, SqL.of e3, fun p4 hp4 => ?_⟩
    rw [cut1]
    have n34 : p3 ≠ p4 := fun z => by rw [← z, upd_same] at hp4; cases hp4
    refine ⟨p4, rfl, ⟨_, SqL.of upd_same⟩, for_list (K := K) (a := p4) (xs := pr.map V.str) (fun i σ H5 => ∃ (v4 : Option V) (zs : List V), σ = [some (.str t), some (.ref p1), some v2, some (.ref p3), v4, none] ∧ Same H2 H5 ∧ H5 p4 = some (.lst (pr.map V.str)) ∧ H5 p3 = some (.lst zs) ∧ zs.length = i ∧ ∀ (j : Nat) (z : V), zs[j]? = some z → ∃ (p : Str) (q : Addr), pr[j]? = some p ∧ z = V.ref q ∧ SqT K H5 q ((wds p).map fun y => numO y.cps.toList)) ⟨none, [], rfl, s3.trans (Same.new hp4), upd_same, (Same.new hp4) _ _ upd_same, rfl, fun j z h => by rw [List.getElem?_nil] at h; cases h⟩ (fun i σ H5 _ ⟨_, _, _, _, h, _⟩ => SqL.of h) ?_ ?_⟩
    · rintro i x σ H5 hx ⟨v4, zs, rfl, s5, h4, h3, hzl, hzs⟩
      rw [List.getElem?_map] at hx
      cases q : pr[i]? with
      | none => rw [q] at hx; cases hx
      | some p =>
        rw [q] at hx
        obtain rfl : V.str p = x := Option.some.inj hx
        have hpm := List.mem_of_getElem? q
        have hil : i < pr.length := (List.getElem?_eq_some_iff.mp q).1
        have hp := hpr p hpm
        have hwl := hrow p hpm
        refine ⟨_, rfl, .inl ⟨rfl, _, SqL.of h3⟩, _, rfl, rfl, _, _, rfl, rfl, by decide +kernel, by omega, fun p5 hp5 => ?_⟩
        refine ⟨p5, rfl, ⟨_, SqL.of upd_same⟩, comp_fnL (K := K) (a := p5) (xs := (wds p).map V.str) (vs := (wds p).map fun y => numO y.cps.toList) (fun σ => ∃ v, σ = [v]) (by rw [List.length_map]; omega) (by rw [List.length_map, List.length_map]) (SqL.of upd_same) ⟨none, rfl⟩ ?_ ?_⟩
        · rintro m xv v σ H9 hxv hv ⟨v0, rfl⟩ s9 Q2 hQ2
          rw [List.getElem?_map] at hxv hv
          cases q2 : (wds p)[m]? with
          | none => rw [q2] at hxv; cases hxv
          | some o =>
            rw [q2] at hxv hv
            obtain rfl : V.str o = xv := Option.some.inj hxv
            obtain rfl : numO o.cps.toList = v := Option.some.inj hv
            have ho := wds_asc hp.1 (List.mem_of_getElem? q2)
            exact ⟨_, rfl, o, rfl, ho.1, by omega, fun H10 s10 => hQ2 _ _ ⟨_, rfl⟩ s10⟩
        · rintro H9 s9 z9 hz9
          refine ⟨z9, _, rfl, .inl ⟨SqL.of upd_same, fun t9 ht9 => ?_⟩⟩
          have s59 := (Same.new (o := .lst ((wds p).map V.str)) hp5).trans (s9.trans ((Same.new (o := .lst ((wds p).map fun y => numO y.cps.toList)) hz9).trans (Same.new (o := .tup ((wds p).map fun y => numO y.cps.toList)) ht9)))
          have et : upd (upd H9 z9 (.lst ((wds p).map fun y => numO y.cps.toList))) t9 (.tup ((wds p).map fun y => numO y.cps.toList)) t9 = some (.tup ((wds p).map fun y => numO y.cps.toList)) := upd_same
          generalize upd (upd H9 z9 (.lst ((wds p).map fun y => numO y.cps.toList))) t9 (.tup ((wds p).map fun y => numO y.cps.toList)) = H10 at s59 et ⊢
          have h3' := s59 _ _ h3
          refine ⟨p3, zs, .ref t9, rfl, rfl, h3', by omega, ?_⟩
          have bt : But p3 H10 (upd H10 p3 (.lst (zs ++ [.ref t9]))) := But.at
          refine ⟨_, zs ++ [.ref t9], rfl, fun b o h => ?_, ?_, upd_same, by rw [List.length_append, hzl]; rfl, fun j z h => ?_⟩
          · rw [upd_ne (fun e => by rw [e, hp3] at h; cases h)]
            exact s59 _ _ (s5 _ _ h)
          · rw [upd_ne (Ne.symm n34)]
            exact s59 _ _ h4
          · by_cases hj : j < zs.length
            · rw [List.getElem?_append_left hj] at h
              obtain ⟨p', q', a1, a2, a3⟩ := hzs j z h
              exact ⟨p', q', a1, a2, bt.seqT h3' (s59.seqT a3)⟩
            · obtain ⟨hj2, _⟩ := List.getElem?_eq_some_iff.mp h
              rw [List.length_append] at hj2
              have ej : j = i := by simp at hj2; omega
              subst ej
              rw [List.getElem?_append_right (by omega), hzl, Nat.sub_self] at h
              obtain rfl : V.ref t9 = z := Option.some.inj h
              exact ⟨p, t9, q, rfl, bt.seqT h3' (SqT.of et)⟩
    · rintro σ H5 ⟨v4, zs, rfl, s5, h4, h3, hzl, hzs⟩
      rw [List.length_map] at hzl
      clear h4 hp4 n34
      have s05 := s02.trans s5
      have row : ∀ {H'} (j : Nat) (z : V), Same H5 H' → zs[j]? = some z → ∃ (p : Str) (q : Addr), pr[j]? = some p ∧ z = V.ref q ∧ SqT K H' q ((wds p).map fun y => numO y.cps.toList) := fun {H'} j z s' hz => by
        obtain ⟨p, q, a1, a2, a3⟩ := hzs j z hz
        exact ⟨p, q, a1, a2, s'.seqT a3⟩
      refine ⟨_, rfl, rfl, _, rfl, ?_⟩
      refine ite2 (fun c2 => ?_) (fun c2 => ?_)
      · have c2' : v2 = .non := of_decide_eq_true c2
        have hn : isNum (p0.cps.toList.drop 6) = false := by
          cases e : isNum (p0.cps.toList.drop 6) with
          | false => rfl
          | true => rw [← hv2] at c2'; unfold numO at c2'; rw [if_pos e] at c2'; cases c2'
        exact ⟨sz2 _ _, fun p hp => kT s05 (by rw [hTk, hi1, hn, Bool.and_false]; rfl) p hp⟩
      have hn : isNum (p0.cps.toList.drop 6) = true := by
        cases e : isNum (p0.cps.toList.drop 6) with
        | true => rfl
        | false =>
          refine absurd (decide_eq_true ?_) c2
          rw [← hv2]
          unfold numO
          rw [if_neg (by rw [e]; decide)]
      have hHt : headOk (wds p0) = true := by rw [hi1, decide_eq_true c1', hn]; rfl
      have hHv : handsOf t = numV (p0.cps.toList.drop 6) := by rw [hHk, hi2 hHt]
      have hv : v2 = .int (handsOf t) := by rw [← hv2, hHv]; unfold numO; rw [if_pos hn]
      subst hv
      refine ⟨_, rfl, p3, rfl, ⟨_, SqL.of h3⟩, comp_fnL (K := K) (a := p3) (xs := zs) (vs := pr.map fun p => V.bl (!rowOk (wds p))) (fun σ => ∃ v, σ = [v]) (by omega) (by rw [List.length_map]; exact hzl.symm) (SqL.of h3) ⟨none, rfl⟩ ?_ ?_⟩
      · rintro m xv v σ H9 hxv hv ⟨v0, rfl⟩ s9 Q2 hQ2
        obtain ⟨p, q, a1, rfl, a3⟩ := row m xv s9 hxv
        rw [List.getElem?_map, a1] at hv
        obtain rfl : V.bl (!rowOk (wds p)) = v := Option.some.inj hv
        refine ⟨_, rfl, q, _, rfl, .inr a3, rfl, row_flat _, ?_⟩
        simp only [Bool.false_eq_true, if_false, none_in]
        exact hQ2 _ _ ⟨_, rfl⟩ (Same.refl _)
      · rintro H6 s6 z6 hz6
        refine ⟨z6, pr.map fun p => !rowOk (wds p), rfl, SqL.of (by rw [upd_same, List.map_map]; rfl), _, rfl, ?_⟩
        have hany : (pr.map fun p => !rowOk (wds p)).any id = !(pr.all fun p => rowOk (wds p)) := by
          rw [List.any_map, List.not_all_eq_any_not]
          rfl
        rw [hany]
        have s7 := s6.trans (Same.new (o := .lst (pr.map fun p => V.bl (!rowOk (wds p)))) hz6)
        generalize upd H6 z6 (.lst (pr.map fun p => V.bl (!rowOk (wds p)))) = H7 at s7 ⊢
        have s07 := s05.trans s7
        have h7 := s7 _ _ h3
        refine ite2 (fun c3 => ?_) (fun c3 => ?_)
        · have c3' : (pr.all fun p => rowOk (wds p)) = false := by simpa using c3
          exact ⟨sz2 _ _, fun p hp => kT s07 (by rw [hTk, c3', Bool.and_false]) p hp⟩
        have c3' : (pr.all fun p => rowOk (wds p)) = true := by
          cases e : (pr.all fun p => rowOk (wds p)) with
          | true => rfl
          | false => rw [e] at c3; exact absurd rfl c3
        have hTt : textOk t = true := by rw [hTk, hHt, c3']; rfl
        have hok : ∀ p ∈ pr, rowOk (wds p) = true := List.all_eq_true.mp c3'
        have kB' : ∀ {H2}, Same H H2 → isBook (bookD (handsOf t) (worksOf t)) = false → ∀ p, H2 p = none → Q (.ref p) (upd H2 p (.tup [.str "book", .non])) := fun {H2} s2 e p hp => kB s2 hTt e p hp
        have nb : ¬ (1 ≤ handsOf t ∧ handsOf t ≤ 6 ∧ (worksOf t).length ≤ 12 ∧ ∀ l ∈ worksOf t, isWork (handsOf t) (workD l) = true) → isBook (bookD (handsOf t) (worksOf t)) = false := fun h => by
          cases e : isBook (bookD (handsOf t) (worksOf t)) with
          | false => rfl
          | true => exact absurd (book_parts e) h
        have hwl : (worksOf t).length = zs.length := by rw [hWk, List.length_map, hzl]
        refine ⟨_, rfl, _, _, rfl, rfl, _, rfl, ?_⟩
        refine ite2 (fun c4 => ?_) (fun c4 => ?_)
        · have c4' : handsOf t < 1 := of_decide_eq_true c4
          exact ⟨sz2 _ _, fun p hp => kB' s07 (nb fun h => by omega) p hp⟩
        have c4' : ¬ handsOf t < 1 := fun z => c4 (decide_eq_true z)
        refine ⟨_, rfl, _, _, rfl, rfl, _, rfl, ?_⟩
        refine ite2 (fun c5 => ?_) (fun c5 => ?_)
        · have c5' : 6 < handsOf t := of_decide_eq_true c5
          exact ⟨sz2 _ _, fun p hp => kB' s07 (nb fun h => by omega) p hp⟩
        have c5' : ¬ 6 < handsOf t := fun z => c5 (decide_eq_true z)
        refine ⟨_, rfl, p3, _, rfl, .inl (SqL.of h7), _, _, rfl, rfl, _, rfl, ?_⟩
        refine ite2 (fun c6 => ?_) (fun c6 => ?_)
        · have c6' : (12 : Int) < zs.length := of_decide_eq_true c6
          exact ⟨sz2 _ _, fun p hp => kB' s07 (nb fun h => by omega) p hp⟩
        have c6' : ¬ (12 : Int) < zs.length := fun z => c6 (decide_eq_true z)
        refine ⟨_, rfl, p3, rfl, ⟨_, SqL.of h7⟩, for_list (K := K) (a := p3) (xs := zs) (fun i σ H8 => ∃ (v5 : Option V), σ = [some (.str t), some (.ref p1), some (.int (handsOf t)), some (.ref p3), v4, v5] ∧ Same H7 H8 ∧ ∀ j, j < i → ∀ p, pr[j]? = some p → isWork (handsOf t) (workD (rowN (wds p))) = true) ⟨none, rfl, Same.refl _, fun j hj => absurd hj (Nat.not_lt_zero _)⟩ (fun i σ H8 _ ⟨_, _, s8, _⟩ => SqL.of (s8 _ _ h7)) ?_ ?_⟩
        · rintro i x σ H8 hx ⟨v5, rfl, s8, hw8⟩
          obtain ⟨p, q, a1, rfl, a3⟩ := row i x (s7.trans s8) hx
          have hpm := List.mem_of_getElem? a1
          rw [row_ints (hok p hpm)] at a3
          have hrl : (rowN (wds p)).length ≤ 18 := by unfold rowN; rw [List.length_map]; exact hrow p hpm
          have s08 := s07.trans s8
          refine ⟨_, rfl, q, _, rfl, .inr a3, fun l1 hl1 => ?_⟩
          refine ⟨_, rfl, q, _, rfl, (Same.new hl1).seqT a3, hrl, fun y1 hy1 => ?_⟩
          refine ⟨y1, _, rfl, upd_same, hrl, fun y2 out hso hy2 => ?_⟩
          have s9 := (Same.new (o := .lst ((rowN (wds p)).map V.int)) hl1).trans ((Same.new (o := SetI _ y1 (rowN (wds p))) hy1).trans (Same.new (o := .lst (out.map V.int)) hy2))
          have wi := work_iff (n := handsOf t) (rowN_ne p) (rowN_pos _) hso
          have notB : isWork (handsOf t) (workD (rowN (wds p))) = false → isBook (bookD (handsOf t) (worksOf t)) = false := fun e => nb fun h => by
            have := h.2.2.2 (rowN (wds p)) (by rw [hWk]; exact List.mem_map_of_mem hpm)
            rw [e] at this
            cases this
          refine ⟨.list ((rowN (wds p)).map .int), .list (out.map .int), den_lints.mpr ⟨l1, rfl, SqL.of (((Same.new hy1).trans (Same.new hy2)) _ _ upd_same)⟩, den_lints.mpr ⟨y2, rfl, SqL.of upd_same⟩, noDict_ints _, noDict_ints _, shaped_ints _, shaped_ints _, _, rfl, ?_⟩
          rw [eqv_lints]
          refine ite2 (fun c7 => ?_) (fun c7 => ?_)
          · have c7' : ¬ rowN (wds p) = out := by simpa using c7
            exact ⟨sz2 _ _, fun p hp => kB' (s08.trans s9) (notB (by rw [wi, decide_eq_false c7']; rfl)) p hp⟩
          have c7' : rowN (wds p) = out := by simpa using c7
          refine ⟨_, rfl, 1, rfl, q, _, -1, .int ((rowN (wds p)).getLast (rowN_ne p)), rfl, rfl, s9.seqT a3, ?_, _, rfl, _, _, rfl, rfl, _, rfl, ?_⟩
          · rw [atI_last (by simpa using rowN_ne p), List.getLast_map]
          refine ite2 (fun c8 => ?_) (fun c8 => ?_)
          · have c8' : handsOf t ≤ (rowN (wds p)).getLast (rowN_ne p) := of_decide_eq_true c8
            exact ⟨sz2 _ _, fun p hp => kB' (s08.trans s9) (notB (by rw [wi, decide_eq_false (show ¬ (rowN (wds _)).getLast _ < handsOf t by omega), Bool.and_false])) p hp⟩
          have c8' : ¬ handsOf t ≤ (rowN (wds p)).getLast (rowN_ne p) := fun z => c8 (decide_eq_true z)
          refine ⟨_, rfl, s8.trans s9, fun j hj p' hp' => ?_⟩
          rcases Nat.lt_succ_iff_lt_or_eq.mp hj with hj | rfl
          · exact hw8 j hj p' hp'
          · rw [a1] at hp'
            cases hp'
            rw [wi, decide_eq_true c7', decide_eq_true (show (rowN (wds p)).getLast _ < handsOf t by omega)]
            rfl
        · rintro σ H8 ⟨v5, rfl, s8, hw8⟩
          have s08 := s07.trans s8
          have hbk : isBook (bookD (handsOf t) (worksOf t)) = true := book_of (by omega) (by omega) (by omega) fun l hl => by
            rw [hWk] at hl
            obtain ⟨p, hp, rfl⟩ := List.mem_map.mp hl
            obtain ⟨j, hj, e⟩ := List.getElem_of_mem hp
            exact hw8 j (by omega) p (by rw [List.getElem?_eq_getElem hj, e])
          have dall : ∀ {H'}, Same H8 H' → DenAll K H' ((worksOf t).map workD) zs := fun {H'} s' => denAll_pt (by rw [List.length_map]; exact hwl.symm) fun j d x h1 h2 => by
            obtain ⟨p, q, a1, rfl, a3⟩ := row j x (s7.trans (s8.trans s')) h2
            rw [hWk, List.getElem?_map, List.getElem?_map, a1] at h1
            obtain rfl : workD (rowN (wds p)) = d := Option.some.inj h1
            rw [row_ints (hok p (List.mem_of_getElem? a1))] at a3
            exact den_tints.mpr ⟨q, rfl, a3⟩
          refine ⟨_, rfl, _, rfl, p3, _, rfl, .inl ⟨SqL.of (s8 _ _ h7), fun t8 ht8 => ⟨sz2 _ _, fun b8 hb8 => ⟨sz2 _ _, fun p hp => ?_⟩⟩⟩⟩
          have s9 := (Same.new (o := .tup zs) ht8).trans ((Same.new (o := .tup [.int (handsOf t), .ref t8]) hb8).trans (Same.new (o := .tup [.str "told", .ref b8]) hp))
          refine k p _ (s08.trans s9) ?_
          rw [show dueD t = .tuple [.str "told", bookD (handsOf t) (worksOf t)] by unfold dueD; rw [hTt, hbk]; rfl]
          refine den_tuple.mpr ⟨p, _, rfl, SqT.of upd_same, denAll_cons.mpr ⟨_, _, rfl, den_str.mpr rfl, denAll_cons.mpr ⟨_, _, rfl, ?_, denAll_nil.mpr rfl⟩⟩⟩
          exact den_tuple.mpr ⟨b8, _, rfl, SqT.of ((Same.new hp) _ _ upd_same), denAll_cons.mpr ⟨_, _, rfl, den_int.mpr rfl, denAll_cons.mpr ⟨_, _, rfl, den_tuple.mpr ⟨t8, zs, rfl, SqT.of (((Same.new hb8).trans (Same.new hp)) _ _ upd_same), dall s9⟩, denAll_nil.mpr rfl⟩⟩⟩
end
end Ab
set_option Elab.async false
set_option linter.all false
set_option maxRecDepth 100000
namespace Ab
open PySem L2
section
variable {P : Program} {w : World} {K : PySem.W.Frag} {mg : Str → Option Value} {base : Heap} {cE : Addr} {c : Nat → Addr}
variable {fW fH fK fB fNB : Addr} {dW dH dK dB dNB : FuncData}
def spTold (K : PySem.W.Frag) : Sp := fun vs H Q _ => ∃ t : Str, vs = [.str t] ∧ Asc t ∧ t.length ≤ 10000 ∧ t.cps.toList.count 32 ≤ 900 ∧ ∀ p H', Same H H' → Den K H' (dueD t) (.ref p) → Q (.ref p) H'
theorem scTold : FnScope ["text", "caught", "found", "e"] ["text"] (defScope sTold) := ⟨rfl, rfl, rfl, by decide +kernel, rfl, by decide +kernel, by decide +kernel⟩
theorem ok_told {f fR fN fI : Addr} {fd dR dN dI : FuncData} (G : Fn K mg "_law_e_told" sTold ["text"] f fd) (B : Bl mg) (R : Pr K mg fW fH fK fB fNB dW dH dK dB dNB) (Z : Cl K mg cE c) (GRb : Fn K mg "read_book" sReadB ["text"] fR dR) (GNm : Fn K mg "is_number" sNumber ["word"] fN dN) (GKi : Fn K mg "_law_e_kind" sKind ["caught"] fI dI) : FnOk P w K mg base CX0 5 f fd ["text"] (spTold K) := by
  have ORb : FnOk P w K mg base (CX1 P w) 4 fR dR ["text"] (spReadB K c) := ok_readB GRb B R Z GNm
  have OKi : FnOk P w K mg base CX0 1 fI dI ["caught"] (spKind c) := ok_kind GKi B Z
  refine G.fn.ok scTold (fun vs H Q E h => ?_) (fun cdv A outer s H vs Q E hr h => ?_)
  · obtain ⟨t, rfl, _⟩ := h
    rfl
  · obtain ⟨t, rfl, ha, hl, hcn, k⟩ := h
    have r1 : Room 1 _ := hr.mono (by decide)
    refine ⟨_, pss_cons (ps_set (i := 1) scTold.nd rfl (Or.inl rfl) pe_non) (pss_cons (ps_set (i := 2) scTold.nd rfl (Or.inl rfl) pe_non)
      (pss_cons (ps_try (i := 1) (j := 3) (pb_set (i := 2) ORb hr rfl GRb.mgx GRb.kp GRb.bd .nil (pa_cons (pv 0) pa_nil) scTold.nd rfl (Or.inl rfl)) rfl rfl rfl rfl Z.mE Z.eE scTold.nd rfl rfl (by decide) rfl rfl)
      (pss_cons (ps_if (pt_cmpR op_isN (pv 1) pe_non (nomark _)) (pss_one (ps_ret (pe_tup (pa_cons pe_str (pa_cons (pv 2) pa_nil))))) pss_nil)
      (pss_one (ps_ret (pe_tup (pa_cons (pe_fn GKi OKi r1 rfl (pa_cons (pv 1) pa_nil)) (pa_cons pe_non pa_nil)))))))), ?_⟩
    have bad : ∀ {H1 : Hp} {y : Str} {p : Addr}, Same H H1 → H1 p = none → dueD t = .tuple [.str y, .none] → Q (.ref p) (upd H1 p (.tup [.str y, .non])) := fun {H1 y p} s1 hp e => by
      refine k p _ (s1.trans (Same.new hp)) ?_
      rw [e]
      exact den_tuple.mpr ⟨p, _, rfl, SqT.of upd_same, denAll_cons.mpr ⟨_, _, rfl, den_str.mpr rfl, denAll_cons.mpr ⟨_, _, rfl, den_none.mpr rfl, denAll_nil.mpr rfl⟩⟩⟩
    refine ⟨_, rfl, t, rfl, ha, hl, hcn, fun e1 H1 s1 => ⟨c 6, _, rfl, Z.ec 6 (by decide), Z.up, fun a ha => ?_⟩, fun e1 e2 H1 s1 => ⟨c 0, _, rfl, Z.ec 0 (by decide), Z.up, fun a ha => ?_⟩, fun e1 e2 p H1 s1 hd => ?_⟩
    · refine ⟨_, rfl, rfl, _, rfl, iteF ?_⟩
      refine ⟨_, rfl, a, 6, "text", rfl, upd_same, by decide, rfl, fun H2 s2 => ⟨sz2 _ _, fun p hp => ?_⟩⟩
      exact bad (s1.trans ((Same.new ha).trans s2)) hp (by unfold dueD; rw [e1]; rfl)
    · refine ⟨_, rfl, rfl, _, rfl, iteF ?_⟩
      refine ⟨_, rfl, a, 0, "book", rfl, upd_same, by decide, rfl, fun H2 s2 => ⟨sz2 _ _, fun p hp => ?_⟩⟩
      exact bad (s1.trans ((Same.new ha).trans s2)) hp (by unfold dueD; rw [e1, e2]; rfl)
    · refine ⟨_, rfl, rfl, _, rfl, iteT ?_⟩
      refine ⟨_, rfl, sz2 _ _, fun q hq => ?_⟩
      refine k q _ (s1.trans (Same.new hq)) ?_
      rw [show dueD t = .tuple [.str "told", bookD (handsOf t) (worksOf t)] by unfold dueD; rw [e1, e2]; rfl]
      exact den_tuple.mpr ⟨q, _, rfl, SqT.of upd_same, denAll_cons.mpr ⟨_, _, rfl, den_str.mpr rfl, denAll_cons.mpr ⟨_, _, rfl, (Same.new hq).den _ _ hd, denAll_nil.mpr rfl⟩⟩⟩
end
end Ab
set_option Elab.async false
set_option linter.all false
set_option maxRecDepth 100000
namespace Ab
open PySem L2
section
variable {P : Program} {w : World} {K : PySem.W.Frag} {mg : Str → Option Value} {base : Heap} {cE : Addr} {c : Nat → Addr}
variable {fW fH fK fB fNB : Addr} {dW dH dK dB dNB : FuncData}
def spShown (K : PySem.W.Frag) : Sp := fun vs H Q _ => ∃ x d, vs = [x] ∧ Den K H d x ∧ isBook d = false ∧ ∀ H', Same H H' → Q (.bl true) H'
theorem scShown : FnScope ["thing", "caught", "e"] ["thing"] (defScope sShown) := ⟨rfl, rfl, rfl, by decide +kernel, rfl, by decide +kernel, by decide +kernel⟩
theorem ok_shown {f fS fI : Addr} {fd dS dI : FuncData} (G : Fn K mg "_law_e_shown" sShown ["thing"] f fd) (B : Bl mg) (R : Pr K mg fW fH fK fB fNB dW dH dK dB dNB) (Z : Cl K mg cE c) (GSb : Fn K mg "show_book" sShowB ["book"] fS dS) (GKi : Fn K mg "_law_e_kind" sKind ["caught"] fI dI) : FnOk P w K mg base CX0 6 f fd ["thing"] (spShown K) := by
  have OSb : FnOk P w K mg base (CX1 P w) 5 fS dS ["book"] (spNeedBx K c) := ok_showBx GSb B R Z
  have OKi : FnOk P w K mg base CX0 1 fI dI ["caught"] (spKind c) := ok_kind GKi B Z
  refine G.fn.ok scShown (fun vs H Q E h => ?_) (fun cdv A outer s H vs Q E hr h => ?_)
  · obtain ⟨x, d, rfl, _⟩ := h
    rfl
  · obtain ⟨x, d, rfl, hd, hb, k⟩ := h
    have r1 : Room 1 _ := hr.mono (by decide)
    refine ⟨_, pss_cons (ps_set (i := 1) scShown.nd rfl (Or.inl rfl) pe_non)
      (pss_cons (ps_try (i := 1) (j := 2) (pb_call OSb hr rfl GSb.mgx GSb.kp GSb.bd .nil (pa_cons (pv 0) pa_nil)) rfl rfl rfl rfl Z.mE Z.eE scShown.nd rfl rfl (by decide) rfl rfl)
      (pss_one (ps_ret (pe_and (pe_cmpR op_notN (pv 1) pe_non (nomark _)) (pe_one (pe_cmpR op_eq (pe_fn GKi OKi r1 rfl (pa_cons (pv 1) pa_nil)) pe_str (nomark _))))))), ?_⟩
    refine ⟨_, rfl, x, d, rfl, hd, hb, fun H1 s1 => ⟨c 0, _, rfl, Z.ec 0 (by decide), Z.up, fun a ha => ?_⟩⟩
    refine ⟨_, rfl, rfl, true, rfl, iteT ?_⟩
    refine ⟨_, rfl, a, 0, "book", rfl, upd_same, by decide, rfl, fun H2 s2 => ?_⟩
    refine ⟨rfl, ?_⟩
    rw [show decide (V.str "book" = V.str "book") = true by simp]
    exact k H2 (s1.trans ((Same.new ha).trans s2))
end
end Ab
set_option Elab.async false
set_option linter.all false
set_option maxRecDepth 100000
namespace Ab
open PySem L2
theorem num_signs {i : Int} (h0 : 0 ≤ i) (h6 : i ≤ 6) : (numS i).cps.toList = [48 + i.toNat] := by rw [numS_eq h0 h6]
theorem jn_mem {s : List Nat} {c : Nat} : ∀ {ps : List (List Nat)}, c ∈ jn s ps → c ∈ s ∨ ∃ p ∈ ps, c ∈ p
  | [], h => by cases h
  | [p], h => .inr ⟨p, List.mem_singleton_self _, h⟩
  | p :: q :: r, h => by
    rcases List.mem_append.mp (show c ∈ p ++ s ++ jn s (q :: r) from h) with h | h
    · rcases List.mem_append.mp h with h | h
      · exact .inr ⟨p, List.mem_cons_self .., h⟩
      · exact .inl h
    · rcases jn_mem h with h | ⟨x, hx, h⟩
      · exact .inl h
      · exact .inr ⟨x, List.mem_cons_of_mem _ hx, h⟩
theorem nospace_num {i : Int} (h0 : 0 ≤ i) (h6 : i ≤ 6) : 32 ∉ (numS i).cps.toList ∧ 59 ∉ (numS i).cps.toList := by
  rw [num_signs h0 h6]
  refine ⟨fun h => ?_, fun h => ?_⟩
  · have := List.mem_singleton.mp h; omega
  · have := List.mem_singleton.mp h; omega
theorem split_words {l : List Int} (h : ∀ i ∈ l, 0 ≤ i ∧ i ≤ 6) (hl : l ≠ []) : Txt.split (workT l) " " = l.map numS :=
  split_join (c := 32) (s' := []) (by decide +kernel) (by decide +kernel) (by simpa using hl) fun p hp => by
    obtain ⟨i, hi, rfl⟩ := List.mem_map.mp hp
    exact (nospace_num (h i hi).1 (h i hi).2).1
def Ok51 (t : Str) : Prop := Asc t ∧ t.length ≤ 10000 ∧ t.cps.toList.count 32 ≤ 900 ∧ Good t
theorem good_of_win {t : Str} (h : Win 17 t.cps.toList) : Good t := fun _ p hp => by
  have hm : p ∈ prt t := List.mem_of_mem_tail hp
  obtain ⟨_, _, h3⟩ := split_is (x := t) k_sc.1 k_sc.2
  have := h p.cps.toList (split_inf k_sc.1 k_sc.2 hm) (by have := h3 p hm; rw [show ("; " : Str).cps.toList = [59, 32] by decide +kernel] at this; exact this)
  rw [wds_len]
  omega
theorem ok_win {t : Str} (ha : Asc t) (hl : t.length ≤ 900) (hw : Win 17 t.cps.toList) : Ok51 t := by
  refine ⟨ha, by omega, ?_, good_of_win hw⟩
  have := List.count_le_length (a := 32) (l := t.cps.toList)
  rw [len_list] at this
  omega
theorem ok_few {t : Str} (ha : Asc t) (hl : t.length ≤ 10000) (hc : t.cps.toList.count 32 ≤ 17) : Ok51 t := ⟨ha, hl, by omega, good_of_win (Win.few hc)⟩
structure Txt6 (t : Str) : Prop where
  asc : Asc t
  len : t.length ≤ 200
  win : Win 6 t.cps.toList
theorem work_count {l : List Int} (h : ∀ i ∈ l, 0 ≤ i ∧ i ≤ 6) (h6 : l.length ≤ 6) (hl : l ≠ []) : (workT l).cps.toList.count 32 ≤ 5 := by
  have h1 := wds_len (workT l)
  unfold wds at h1
  rw [split_words h hl, List.length_map] at h1
  omega
theorem book_txt {n : Int} {ws : List (List Int)} (hb : isBook (bookD n ws) = true) : Txt6 (bookT n ws) := by
  obtain ⟨hn1, hn6, hw12, hws⟩ := book_parts hb
  have hj : (bookT n ws).cps.toList = jn [59, 32] ((("hands " : Str) ++ numS n).cps.toList :: (ws.map workT).map (·.cps.toList)) := by
    unfold bookT
    rw [join_list, show ("; " : Str).cps.toList = [59, 32] by decide +kernel]
    rfl
  have hh : (("hands " : Str) ++ numS n).cps.toList = hs6 ++ [48 + n.toNat] := by rw [app_list, num_signs (by omega) hn6, hs_list.1]
  refine ⟨asc_of fun c hc => ?_, bookT_len hb, ?_⟩
  · rw [hj] at hc
    rcases jn_mem hc with h | ⟨x, hx, h⟩
    · have : c = 59 ∨ c = 32 := by simpa using h
      omega
    · rcases List.mem_cons.mp hx with rfl | hx
      · rw [hh] at h
        rcases List.mem_append.mp h with h | h
        · have : ∀ c ∈ hs6, c < 128 := by decide
          exact this c h
        · have := List.mem_singleton.mp h
          omega
      · obtain ⟨y, hy, rfl⟩ := List.mem_map.mp hx
        obtain ⟨l, hl, rfl⟩ := List.mem_map.mp hy
        obtain ⟨a, _, _⟩ := work_six hn6 (hws l hl)
        have hc' : c ∈ jn (" " : Str).cps.toList ((l.map numS).map (·.cps.toList)) := by rw [← join_list]; exact h
        rcases jn_mem hc' with h | ⟨x, hx, h⟩
        · rw [hs_list.2.2] at h
          have := List.mem_singleton.mp h
          omega
        · obtain ⟨y, hy, rfl⟩ := List.mem_map.mp hx
          obtain ⟨i, hi, rfl⟩ := List.mem_map.mp hy
          rw [num_signs (a i hi).1 (a i hi).2] at h
          have := List.mem_singleton.mp h
          have := a i hi
          omega
  · rw [hj]
    refine win_rows _ _ ?_ fun r hr => ?_
    · rw [hh]
      have hx : n = 1 ∨ n = 2 ∨ n = 3 ∨ n = 4 ∨ n = 5 ∨ n = 6 := by omega
      rcases hx with rfl | rfl | rfl | rfl | rfl | rfl <;> decide
    · obtain ⟨y, hy, rfl⟩ := List.mem_map.mp hr
      obtain ⟨l, hl, rfl⟩ := List.mem_map.mp hy
      obtain ⟨a, b, d⟩ := work_six hn6 (hws l hl)
      exact work_count a b d
theorem Asc.app {x y : Str} (h : Asc x) (g : Asc y) : Asc (x ++ y) := asc_of fun c hc => by
  rw [app_list] at hc
  rcases List.mem_append.mp hc with hc | hc
  · exact h.lt hc
  · exact g.lt hc
structure Pc (k m : Nat) (t : Str) : Prop where
  asc : Asc t
  len : t.length ≤ m
  win : Win k t.cps.toList
theorem Pc.app {k l m n : Nat} {x y : Str} (h : Pc k m x) (g : Pc l n y) : Pc (k + l) (m + n) (x ++ y) :=
  ⟨h.asc.app g.asc, by rw [app_len]; exact Nat.add_le_add h.len g.len, by rw [app_list]; exact h.win.app g.win⟩
theorem Pc.ok {k m : Nat} {t : Str} (h : Pc k m t) (hk : k ≤ 17) (hm : m ≤ 900) : Ok51 t := ok_win h.asc (Nat.le_trans h.len hm) (h.win.mono hk)
theorem Pc.sz {k m : Nat} {t : Str} (h : Pc k m t) (hm : m ≤ 900) : t.length ≤ sizeLine := by have := h.len; rw [sizeLine_eq]; omega
theorem Txt6.pc {t : Str} (h : Txt6 t) : Pc 6 200 t := ⟨h.asc, h.len, h.win⟩
theorem Txt6.to {t : Str} (h : Txt6 t) {j : Int} (h0 : 0 ≤ j) : Pc 6 200 (Txt.slice t none (some j)) := by
  have e := slice_to t h0
  have hi : (Txt.slice t none (some j)).cps.toList <:+: t.cps.toList := by rw [e]; exact (List.take_prefix _ _).isInfix
  obtain ⟨a, b⟩ := asc_inf h.asc hi
  exact ⟨a, Nat.le_trans b h.len, h.win.inf hi⟩
theorem Txt6.from {t : Str} (h : Txt6 t) {j : Int} (h0 : 0 ≤ j) : Pc 6 200 (Txt.slice t (some j) none) := by
  have e := slice_from t h0
  have hi : (Txt.slice t (some j) none).cps.toList <:+: t.cps.toList := by rw [e]; exact (List.drop_suffix _ _).isInfix
  obtain ⟨a, b⟩ := asc_inf h.asc hi
  exact ⟨a, Nat.le_trans b h.len, h.win.inf hi⟩
theorem pc_sign {c : Nat} (h : c < 128) : Pc 1 1 ⟨#[c]⟩ := ⟨asc_of fun d hd => by
    have : d = c := by simpa using hd
    omega, Nat.le_refl _, Win.few (by show List.count 32 [c] ≤ 1; exact Nat.le_trans List.count_le_length (Nat.le_refl _))⟩
end Ab
set_option Elab.async false
set_option linter.all false
set_option maxRecDepth 100000
namespace Ab
open PySem L2
section
variable {P : Program} {w : World} {K : PySem.W.Frag} {mg : Str → Option Value} {base : Heap}
def spEach : Sp := fun vs H Q _ => ∃ t : Str, vs = [.str t] ∧ Txt6 t ∧ ∀ (p : Addr) (us : List Str) H', Same H H' → H' p = some (.lst (us.map V.str)) → us.length ≤ 5000 → (∀ u ∈ us, Ok51 u) → Q (.ref p) H'
theorem scEach : FnScope ["text", "found", "at", "sign"] ["text"] (defScope sEach) := ⟨rfl, rfl, rfl, by decide +kernel, rfl, by decide +kernel, by decide +kernel⟩
set_option maxHeartbeats 2000000 in
theorem ok_each {f : Addr} {fd : FuncData} (G : Fn K mg "_law_e_each_change" sEach ["text"] f fd) (B : Bl mg) : FnOk P w K mg base CX0 1 f fd ["text"] spEach := by
  refine G.fn.ok scEach (fun vs H Q E h => ?_) (fun cdv A outer s H vs Q E hr h => ?_)
  · obtain ⟨t, rfl, _⟩ := h
    rfl
  · obtain ⟨t, rfl, ht, k⟩ := h
    refine ⟨_, (pss_cons (ps_set (i := 1) scEach.nd rfl (Or.inl rfl) (pe_lst pa_nil))
    (pss_cons (ps_for PassesOwn.never rfl (pi_range1 rfl B.range (pa_cons (pe_op op_add (pe_callB call_len_str rfl B.len b_len (pa_cons (pv 0) pa_nil)) pe_int) pa_nil)) (pg_name (i := 2) scEach.nd rfl (Or.inl rfl))
      (pss_cons (ps_expr (pe_bm PySem.F.plainAttrs_list PySem.F.slot_list_append PySem.F.type_list_append mt_append (pv 1) (pa_cons (pe_op op_add_str (pe_slice sl_str (pv 0) po_none (po_some (pv 2))) (pe_slice sl_str (pv 0) (po_some (pe_op op_add (pv 2) pe_int)) po_none)) pa_nil)))
    (pss_one (ps_for PassesOwn.never rfl (pi_str pe_str) (pg_name (i := 3) scEach.nd rfl (Or.inl rfl))
      (pss_one (ps_set (i := 1) scEach.nd rfl (Or.inl rfl) (pe_op op_cat (pv 1) (pe_lst (pa_cons (pe_op op_add_str (pe_op op_add_str (pe_slice sl_str (pv 0) po_none (po_some (pv 2))) (pv 3)) (pe_slice sl_str (pv 0) (po_some (pe_op op_add (pv 2) pe_int)) po_none)) (pa_cons (pe_op op_add_str (pe_op op_add_str (pe_slice sl_str (pv 0) po_none (po_some (pv 2))) (pv 3)) (pe_slice sl_str (pv 0) (po_some (pv 2)) po_none)) pa_nil))))))))))
    (pss_one (ps_ret (pv 1))))), ?_⟩
    have hsz : sizeLine = 16777216 := sizeLine_eq
    have htl := ht.len
    refine ⟨by rw [hsz]; decide, fun p0 hp0 => ?_⟩
    refine ⟨_, rfl, _, rfl, by omega, _, _, rfl, rfl, _, rfl, ?_⟩
    refine ⟨by omega, by omega, for_range (lo := 0) (n := ((t.length : Int) + 1).toNat) (fun i σ H1 => ∃ (q : Addr) (us : List Str) (v2 v3 : Option V), σ = [some (.str t), some (.ref q), v2, v3] ∧ Same H H1 ∧ H q = none ∧ H1 q = some (.lst (us.map V.str)) ∧ us.length ≤ 21 * i ∧ ∀ u ∈ us, Ok51 u) ⟨p0, [], none, none, rfl, Same.new hp0, hp0, upd_same, Nat.zero_le _, fun u h => by cases h⟩ ?_ ?_⟩
    · rintro i σ H1 hi ⟨q, us, v2, v3, rfl, s1, hq0, hq, hul, hus⟩
      have hsl : t.length ≤ sizeLine := by omega
      have A1 := ht.to (j := 0 + (i : Int)) (by omega)
      have A2 := ht.from (j := 0 + (i : Int) + 1) (by omega)
      have A3 := ht.from (j := 0 + (i : Int)) (by omega)
      have l1 := A1.len
      have l2 := A2.len
      have l3 := A3.len
      refine ⟨_, rfl, .inl ⟨rfl, _, SqL.of hq⟩, _, rfl, _, rfl, _, rfl, t, rfl, hsl, _, rfl, _, rfl, _, _, rfl, rfl, _, rfl, t, rfl, hsl, _, _, rfl, rfl, by omega, q, _, _, rfl, rfl, hq, by rw [List.length_map]; omega, ?_⟩
      have m1 : us.map V.str ++ [V.str (Txt.slice t none (some (0 + (i : Int))) ++ Txt.slice t (some (0 + (i : Int) + 1)) none)] = (us ++ [Txt.slice t none (some (0 + (i : Int))) ++ Txt.slice t (some (0 + (i : Int) + 1)) none]).map V.str := by rw [List.map_append]; rfl
      rw [m1]
      have s2 : Same H (upd H1 q (.lst ((us ++ [Txt.slice t none (some (0 + (i : Int))) ++ Txt.slice t (some (0 + (i : Int) + 1)) none]).map V.str))) := fun b o h => by
        rw [upd_ne (fun e => by rw [e, hq0] at h; cases h)]
        exact s1 b o h
      have e2 : upd H1 q (.lst ((us ++ [Txt.slice t none (some (0 + (i : Int))) ++ Txt.slice t (some (0 + (i : Int) + 1)) none]).map V.str)) q = _ := upd_same
      generalize upd H1 q (.lst ((us ++ [Txt.slice t none (some (0 + (i : Int))) ++ Txt.slice t (some (0 + (i : Int) + 1)) none]).map V.str)) = H2 at s2 e2 ⊢
      have hus2 : ∀ u ∈ us ++ [Txt.slice t none (some (0 + (i : Int))) ++ Txt.slice t (some (0 + (i : Int) + 1)) none], Ok51 u := fun u hu => by
        rcases List.mem_append.mp hu with hu | hu
        · exact hus u hu
        · rw [List.mem_singleton.mp hu]
          exact (A1.app A2).ok (by decide) (by decide)
      have hul2 : (us ++ [Txt.slice t none (some (0 + (i : Int))) ++ Txt.slice t (some (0 + (i : Int) + 1)) none]).length ≤ 21 * i + 1 := by rw [List.length_append]; simp; omega
      generalize us ++ [Txt.slice t none (some (0 + (i : Int))) ++ Txt.slice t (some (0 + (i : Int) + 1)) none] = us2 at e2 hus2 hul2
      clear m1 hus hul hq s1
      have sg : ∀ c ∈ ("0127 ;-,h\n" : Str).cps.toList, c < 128 := by decide +kernel
      have sn : ("0127 ;-,h\n" : Str).cps.size = 10 := by decide +kernel
      refine ⟨_, rfl, by decide +kernel, for_str (x := "0127 ;-,h\n") (fun j σ H3 => ∃ (q : Addr) (us : List Str) (v3 : Option V), σ = [some (.str t), some (.ref q), some (.int (0 + (i : Int))), v3] ∧ Same H H3 ∧ H q = none ∧ H3 q = some (.lst (us.map V.str)) ∧ us.length ≤ 21 * i + 1 + 2 * j ∧ ∀ u ∈ us, Ok51 u) ⟨q, us2, v3, rfl, s2, hq0, e2, hul2, hus2⟩ ?_ ?_⟩
      · rintro j c σ H3 hc ⟨q, us, v3, rfl, s3, hq0, hq, hul, hus⟩
        have hjl : j < 10 := by rw [← sn]; exact (Array.getElem?_eq_some_iff.mp hc).1
        have hin : i ≤ 200 := by omega
        have C := pc_sign (sg c (List.mem_of_getElem? (by rw [Array.getElem?_toList]; exact hc)))
        have B1 := (A1.app C).app A2
        have B2 := (A1.app C).app A3
        have l4 := (A1.app C).len
        have l5 := C.len
        refine ⟨_, rfl, _, rfl, _, rfl, _, rfl, t, rfl, hsl, _, rfl, _, _, rfl, rfl, by omega, _, rfl, _, rfl, _, _, rfl, rfl, _, rfl, t, rfl, hsl, _, _, rfl, rfl, by omega, ?_⟩
        refine ⟨_, rfl, _, rfl, _, rfl, t, rfl, hsl, _, rfl, _, _, rfl, rfl, by omega, _, rfl, _, rfl, _, rfl, t, rfl, hsl, _, _, rfl, rfl, by omega, sz2 _ _, fun p hp => ?_⟩
        refine ⟨q, p, _, _, rfl, rfl, (Same.new hp) _ _ hq, upd_same, by rw [List.length_map]; simp; omega, fun p' hp' => ?_⟩
        have s4 := s3.trans ((Same.new (o := .lst [V.str (Txt.slice t none (some (0 + (i : Int))) ++ ⟨#[c]⟩ ++ Txt.slice t (some (0 + (i : Int) + 1)) none), V.str (Txt.slice t none (some (0 + (i : Int))) ++ ⟨#[c]⟩ ++ Txt.slice t (some (0 + (i : Int))) none)]) hp).trans (Same.new (o := .lst ((us ++ [Txt.slice t none (some (0 + (i : Int))) ++ ⟨#[c]⟩ ++ Txt.slice t (some (0 + (i : Int) + 1)) none, Txt.slice t none (some (0 + (i : Int))) ++ ⟨#[c]⟩ ++ Txt.slice t (some (0 + (i : Int))) none]).map V.str)) (by exact hp')))
        refine ⟨p', us ++ [Txt.slice t none (some (0 + (i : Int))) ++ ⟨#[c]⟩ ++ Txt.slice t (some (0 + (i : Int) + 1)) none, Txt.slice t none (some (0 + (i : Int))) ++ ⟨#[c]⟩ ++ Txt.slice t (some (0 + (i : Int))) none], _, rfl, ?_, ((s3.trans (Same.new hp)).free hp'), ?_, by rw [List.length_append]; simp; omega, fun u hu => ?_⟩
        · rw [List.map_append] at s4
          exact s4
        · rw [upd_same, List.map_append]
          rfl
        · rcases List.mem_append.mp hu with hu | hu
          · exact hus u hu
          · rcases List.mem_cons.mp hu with rfl | hu
            · exact B1.ok (by decide) (by decide)
            · rw [List.mem_singleton.mp hu]
              exact B2.ok (by decide) (by decide)
      · rintro σ H3 ⟨q, us, v3, rfl, s3, hq0, hq, hul, hus⟩
        exact ⟨q, us, _, _, rfl, s3, hq0, hq, by rw [sn] at hul; omega, hus⟩
    · rintro σ H1 ⟨q, us, v2, v3, rfl, s1, hq0, hq, hul, hus⟩
      exact ⟨_, rfl, k q us H1 s1 hq (by omega) hus⟩
end
end Ab
set_option Elab.async false
set_option linter.all false
set_option maxRecDepth 100000
namespace Ab
open PySem L2
theorem split_rows {n : Int} {ws : List (List Int)} (hb : isBook (bookD n ws) = true) : Txt.split (bookT n ws) "; " = rowsT n ws := by
  obtain ⟨hn1, hn6, hw, hws⟩ := book_parts hb
  refine split_join (c := 59) (s' := [32]) (by decide +kernel) (by decide +kernel) (List.cons_ne_nil _ _) fun p hp hc => ?_
  rcases List.mem_cons.mp hp with rfl | hp
  · rw [app_list] at hc
    rcases List.mem_append.mp hc with h | h
    · exact absurd h (by decide +kernel)
    · exact (nospace_num (by omega) hn6).2 h
  · obtain ⟨l, hl, rfl⟩ := List.mem_map.mp hp
    obtain ⟨a, _, _⟩ := work_six hn6 (hws l hl)
    have hc' : 59 ∈ jn (" " : Str).cps.toList ((l.map numS).map (·.cps.toList)) := by rw [← join_list]; exact hc
    rcases jn_mem hc' with h | ⟨x, hx, h⟩
    · exact absurd h (by decide +kernel)
    · obtain ⟨y, hy, rfl⟩ := List.mem_map.mp hx
      obtain ⟨i, hi, rfl⟩ := List.mem_map.mp hy
      exact (nospace_num (a i hi).1 (a i hi).2).2 h
def upc (c : Nat) : Nat := if 97 ≤ c ∧ c ≤ 122 then c - 32 else c
theorem upper_list : ∀ (l : List Nat), (∀ c ∈ l, c < 128) → (Txt.upper ⟨l.toArray⟩).cps.toList = l.map upc
  | [], _ => by decide +kernel
  | c :: l, h => by
    have e : (⟨(c :: l).toArray⟩ : Str) = (⟨#[c]⟩ : Str) ++ ⟨l.toArray⟩ := str_ext (by rw [app_list]; simp)
    rw [e, PySem.W.KOpn.upper_app, app_list, PySem.W.KOpn.upper_one (h c (List.mem_cons_self ..)), upper_list l fun d hd => h d (List.mem_cons_of_mem _ hd)]
    rfl
theorem upper_ok {t : Str} (h : Txt6 t) : Ok51 (Txt.upper t) ∧ (Txt.upper t).length ≤ 200 := by
  have e : (Txt.upper t).cps.toList = t.cps.toList.map upc := by
    have := upper_list t.cps.toList fun c hc => h.asc.lt hc
    rw [show (⟨t.cps.toList.toArray⟩ : Str) = t from str_ext (by simp)] at this
    exact this
  have hl : (Txt.upper t).length ≤ 200 := by
    rw [← len_list, e, List.length_map, len_list]
    exact h.len
  refine ⟨⟨asc_of fun c hc => ?_, by omega, ?_, fun hg => ?_⟩, hl⟩
  · rw [e] at hc
    obtain ⟨d, hd, rfl⟩ := List.mem_map.mp hc
    have := h.asc.lt hd
    unfold upc
    split <;> omega
  · have := List.count_le_length (a := 32) (l := (Txt.upper t).cps.toList)
    rw [len_list] at this
    omega
  · exfalso
    rw [e] at hg
    cases hl : t.cps.toList with
    | nil => rw [hl] at hg; cases hg
    | cons c l =>
      rw [hl] at hg
      have h0 : upc c = 104 := by
        have := congrArg List.head? hg
        simpa [hs6] using this
      have hc := h.asc.lt (show c ∈ t.cps.toList by rw [hl]; exact List.mem_cons_self ..)
      unfold upc at h0
      split at h0 <;> omega
theorem no_sep : ∀ (rs : List (List Nat)), (∀ r ∈ rs, 59 ∉ r ∧ ∃ c l, r = c :: l ∧ c ≠ 32) → ¬ [59, 32] <:+: jn [59] rs
  | [], _ => by rintro ⟨a, b, e⟩; simp [jn] at e
  | [r], h => by
    rintro ⟨a, b, e⟩
    refine (h r (List.mem_singleton_self _)).1 ?_
    have e' : a ++ [59, 32] ++ b = r := e
    rw [← e']
    simp
  | r :: q :: rs, h => by
    intro hi
    have ih := no_sep (q :: rs) fun x hx => h x (List.mem_cons_of_mem _ hx)
    have hr := (h r (List.mem_cons_self ..)).1
    have first : ¬ [59, 32] <:+: r ++ [59] := by
      rintro ⟨a, b, e⟩
      rcases List.eq_nil_or_concat b with rfl | ⟨b', d, rfl⟩
      · have := congrArg List.getLast? e
        simp at this
      · refine hr ?_
        have e2 : (a ++ [59, 32] ++ b') ++ [d] = r ++ [59] := by rw [← e]; simp
        have e3 := (List.append_inj' e2 rfl).1
        rw [← e3]
        simp
    rcases infix_app (show [59, 32] <:+: (r ++ [59]) ++ jn [59] (q :: rs) from hi) with hi | hi | ⟨u, v, e, ⟨a, hu⟩, ⟨b, hv⟩⟩
    · exact first hi
    · exact ih hi
    · cases u with
      | nil => exact ih ⟨[], b, by rw [List.nil_append] at e ⊢; rw [e]; exact hv⟩
      | cons x u => cases u with
        | nil =>
          have ev : v = [32] := by
            have : [59, 32] = x :: v := e
            injection this with _ h2
            exact h2.symm
          subst ev
          obtain ⟨c, l, hq, hc⟩ := (h q (List.mem_cons_of_mem _ (List.mem_cons_self ..))).2
          have e4 : (jn [59] (q :: rs)).head? = some c := by
            cases rs with
            | nil => rw [hq]; rfl
            | cons _ _ => rw [hq]; rfl
          rw [← hv] at e4
          have : (32 : Nat) = c := by simpa using e4
          exact hc this.symm
        | cons y u =>
          have ev : v = [] ∧ u = [] ∧ x = 59 ∧ y = 32 := by
            have h1 : [59, 32] = x :: y :: (u ++ v) := e
            injection h1 with h2 h3
            injection h3 with h4 h5
            have := List.append_eq_nil_iff.mp h5.symm
            exact ⟨this.2, this.1, h2.symm, h4.symm⟩
          obtain ⟨rfl, rfl, rfl, rfl⟩ := ev
          exact first ⟨a, [], by rw [List.append_nil]; exact hu⟩
theorem prt_one {u : Str} (h : ¬ [59, 32] <:+: u.cps.toList) : (prt u).tail = [] := by
  obtain ⟨h1, h2, _⟩ := split_is (x := u) k_sc.1 k_sc.2
  have h2' : jn ("; " : Str).cps.toList ((prt u).map (·.cps.toList)) = u.cps.toList := h2
  rw [show ("; " : Str).cps.toList = [59, 32] by decide +kernel] at h2'
  cases e : prt u with
  | nil => rfl
  | cons a l => cases l with
    | nil => rfl
    | cons b l =>
      exfalso
      rw [e] at h2'
      refine h ⟨a.cps.toList, jn [59, 32] ((b :: l).map (·.cps.toList)), ?_⟩
      rw [← h2']
      rfl
theorem repl_join {t : Str} : Txt.replace t "; " ";" = t ∨ Txt.replace t "; " ";" = (";" : Str).join (Txt.split t "; ") := by
  unfold Txt.replace
  cases ho : (Builtin.Str.occurrences t "; " 0 t.length (t.length + 1)).isEmpty with
  | true => exact .inl rfl
  | false =>
    right
    rw [show (("; " : Str).length == 0 && (";" : Str).length == 0) = false by decide +kernel, Bool.or_false, if_neg (by decide), StrLaws.glued_eq_join]
    congr 1
    have kx : ¬ Builtin.Str.strKind t < Builtin.Str.strKind ("; " : Str) := by
      rw [k_sc.1]
      unfold Builtin.Str.strKind
      split
      · omega
      · split <;> omega
    unfold Txt.split
    have h1 : ¬ t.length < ("; " : Str).length := fun z => by
      cases e : Builtin.Str.occurrences t "; " 0 t.length (t.length + 1) with
      | nil => rw [e] at ho; cases ho
      | cons k cs =>
        have := (StrLaws.occ_spec t "; " 0 t.length (t.length + 1) k (by rw [e]; exact List.mem_cons_self ..)).1
        omega
    rw [decide_eq_false h1, Bool.false_or, decide_eq_false kx, if_neg (by decide), if_neg (by rw [ho]; decide)]
theorem repl_ok {n : Int} {ws : List (List Int)} (hb : isBook (bookD n ws) = true) : Ok51 (Txt.replace (bookT n ws) "; " ";") := by
  have ht := book_txt hb
  rcases repl_join (t := bookT n ws) with e | e
  · rw [e]; exact ht.pc.ok (by decide) (by decide)
  obtain ⟨hn1, hn6, hw12, hws⟩ := book_parts hb
  rw [e, split_rows hb]
  have hj : ((";" : Str).join (rowsT n ws)).cps.toList = jn [59] ((rowsT n ws).map (·.cps.toList)) := by rw [join_list, show (";" : Str).cps.toList = [59] by decide +kernel]
  have hrow : ∀ r ∈ (rowsT n ws).map (·.cps.toList), 59 ∉ r ∧ (∃ c l, r = c :: l ∧ c ≠ 32) ∧ ∀ c ∈ r, c < 128 := fun r hr => by
    obtain ⟨y, hy, rfl⟩ := List.mem_map.mp hr
    have hin : ∀ c ∈ y.cps.toList, c < 128 := fun c hc => ht.asc.lt ((split_inf (x := bookT n ws) k_sc.1 k_sc.2 (show y ∈ Txt.split (bookT n ws) "; " by rw [split_rows hb]; exact hy)).subset hc)
    rcases List.mem_cons.mp hy with rfl | hy
    · rw [app_list, num_signs (by omega) hn6, hs_list.1] at hin ⊢
      refine ⟨fun z => ?_, ⟨104, _, rfl, by decide⟩, hin⟩
      rcases List.mem_append.mp z with z | z
      · exact absurd z (by decide)
      · have := List.mem_singleton.mp z; omega
    · obtain ⟨l, hl, rfl⟩ := List.mem_map.mp hy
      obtain ⟨a, _, d⟩ := work_six hn6 (hws l hl)
      have hwj : (workT l).cps.toList = jn [32] ((l.map numS).map (·.cps.toList)) := by unfold workT; rw [join_list, hs_list.2.2]
      refine ⟨fun z => ?_, ?_, hin⟩
      · rw [hwj] at z
        rcases jn_mem z with h | ⟨x, hx, h⟩
        · have := List.mem_singleton.mp h; omega
        · obtain ⟨y, hy, rfl⟩ := List.mem_map.mp hx
          obtain ⟨i, hi, rfl⟩ := List.mem_map.mp hy
          exact (nospace_num (a i hi).1 (a i hi).2).2 h
      · cases l with
        | nil => exact absurd rfl d
        | cons i l =>
          have hi := a i (List.mem_cons_self ..)
          rw [hwj]
          cases l with
          | nil => exact ⟨48 + i.toNat, [], by show (numS i).cps.toList = _; rw [num_signs hi.1 hi.2], by omega⟩
          | cons i2 l => exact ⟨48 + i.toNat, _, by show (numS i).cps.toList ++ [32] ++ _ = _; rw [num_signs hi.1 hi.2]; rfl, by omega⟩
  have hlen : ((";" : Str).join (rowsT n ws)).length ≤ 900 := by
    have h1 := StrLaws.join_length_le (";" : Str) (rowsT n ws)
    obtain ⟨r1, r2⟩ := rowsT_len hb
    have h2 := sum_le (fun x : Str => x.length) 12 (rowsT n ws) r1
    have h3 : (";" : Str).length = 1 := by decide +kernel
    rw [h3] at h1
    omega
  refine ⟨asc_of fun c hc => ?_, by omega, ?_, fun _ p hp => ?_⟩
  · rw [hj] at hc
    rcases jn_mem hc with h | ⟨x, hx, h⟩
    · have := List.mem_singleton.mp h; omega
    · exact (hrow x hx).2.2 c h
  · have := List.count_le_length (a := 32) (l := ((";" : Str).join (rowsT n ws)).cps.toList)
    rw [len_list] at this
    omega
  · rw [prt_one (by rw [hj]; exact no_sep _ fun r hr => ⟨(hrow r hr).1, (hrow r hr).2.1⟩)] at hp
    cases hp
theorem pc_lit {y : Str} (h : (y.cps.all (· < 128) && (decide (y.length ≤ 10) && decide (y.cps.toList.count 32 ≤ 2))) = true) : Pc 2 10 y := by
  rw [Bool.and_eq_true, Bool.and_eq_true] at h
  exact ⟨h.1, of_decide_eq_true h.2.1, Win.few (of_decide_eq_true h.2.2)⟩
end Ab
set_option Elab.async false
set_option linter.all false
set_option maxRecDepth 100000
namespace Ab
open PySem L2
section
variable {P : Program} {w : World} {K : PySem.W.Frag} {mg : Str → Option Value} {base : Heap}
def spBentE (K : PySem.W.Frag) : Sp := fun vs H Q _ => ∃ (t a : Addr) (ns : List Int) (N : Nat) (n : Int) (ws : List (List Int)), vs = [.ref t, .str (bookT n ws)] ∧ Jar K H t a ns N ∧ N ≤ 800000 ∧ isBook (bookD n ws) = true ∧ ∀ u H', Ok51 u → But t H H' → Jar K H' t a ns (N + 3) → Q (.str u) H'
theorem scBentE : FnScope ["jar", "text", "signs", "at", "sign", "some"] ["jar", "text"] (defScope sBentE) := ⟨rfl, rfl, rfl, by decide +kernel, rfl, by decide +kernel, by decide +kernel⟩
set_option maxHeartbeats 4000000 in
theorem ok_bentE {f fS : Addr} {fd dS : FuncData} (G : Fn K mg "_law_e_bent" sBentE ["jar", "text"] f fd) (B : Bl mg) (GSc : Fn K mg "_law_e_scoop" sScoop ["jar", "many"] fS dS) (OSc : FnOk P w K mg base CX0 2 fS dS ["jar", "many"] (spScoop K)) : FnOk P w K mg base CX0 3 f fd ["jar", "text"] (spBentE K) := by
  refine G.fn.ok scBentE (fun vs H Q E h => ?_) (fun cdv A outer s H vs Q E hr h => ?_)
  · obtain ⟨t, a, ns, N, n, ws, rfl, _⟩ := h
    rfl
  · obtain ⟨t, a, ns, N, n, ws, rfl, hJ, hN, hb, k⟩ := h
    have r2 : Room 2 _ := hr
    refine ⟨_, (pss_cons (ps_set (i := 2) scBentE.nd rfl (Or.inl rfl) pe_str)
    (pss_cons (ps_set (i := 2) scBentE.nd rfl (Or.inl rfl) (pe_op op_add_str (pv 2) pe_str))
    (pss_cons (ps_set (i := 3) scBentE.nd rfl (Or.inl rfl) (pe_fn GSc OSc r2 rfl (pa_cons (pv 0) (pa_cons (pe_op op_add (pe_callB call_len_str rfl B.len b_len (pa_cons (pv 1) pa_nil)) pe_int) pa_nil))))
    (pss_cons (ps_set (i := 4) scBentE.nd rfl (Or.inl rfl) (pe_ix ix_str (pv 2) (pe_fn GSc OSc r2 rfl (pa_cons (pv 0) (pa_cons (pe_callB call_len_str rfl B.len b_len (pa_cons (pv 2) pa_nil)) pa_nil))) (fun _ _ => rfl)))
    (pss_cons (ps_set (i := 5) scBentE.nd rfl (Or.inl rfl) (pe_lst (pa_cons (pe_op op_add_str (pe_op op_add_str (pe_slice sl_str (pv 1) po_none (po_some (pv 3))) (pv 4)) (pe_slice sl_str (pv 1) (po_some (pe_op op_add (pv 3) pe_int)) po_none)) (pa_cons (pe_op op_add_str (pe_op op_add_str (pe_slice sl_str (pv 1) po_none (po_some (pv 3))) (pv 4)) (pe_slice sl_str (pv 1) (po_some (pv 3)) po_none)) (pa_cons (pe_op op_add_str (pv 1) pe_str) (pa_cons (pe_op op_add_str (pv 1) pe_str) (pa_cons (pe_op op_add_str (pv 1) pe_str) pa_nil)))))))
    (pss_cons (ps_set (i := 5) scBentE.nd rfl (Or.inl rfl) (pe_op op_cat (pv 5) (pe_lst (pa_cons (pe_op op_add_str pe_str (pv 1)) (pa_cons (pe_op op_add_str (pe_op op_add_str (pv 1) pe_str) (pv 1)) (pa_cons (pe_op op_add_str (pv 1) pe_str) (pa_cons (pe_op op_add_str (pv 1) pe_str) (pa_cons (pe_op op_add_str (pv 1) pe_str) (pa_cons (pe_slice sl_str (pv 1) po_none (po_some (pv 3))) pa_nil)))))))))
    (pss_cons (ps_set (i := 5) scBentE.nd rfl (Or.inl rfl) (pe_op op_cat (pv 5) (pe_lst (pa_cons (pe_op op_add_str (pv 1) pe_str) (pa_cons (pe_op op_add_str (pv 1) pe_str) (pa_cons2 (pet_add (pv 1)) (pe0_replace (i := 1) (y := "; ") (z := ";") rfl (Or.inl rfl) (by decide +kernel)) (pa_cons (pe_bm0 PySem.F.plainAttrs_str PySem.F.slot_str_upper PySem.F.type_str_upper mt_upper (pv 1)) pa_nil)))))))
    (pss_one (ps_ret (pe_ix ix_list (pv 5) (pe_fn GSc OSc r2 rfl (pa_cons (pv 0) (pa_cons (pe_callB call_len_seq rfl B.len b_len (pa_cons (pv 5) pa_nil)) pa_nil))) (fun _ _ => rfl))))))))))), ?_⟩
    have hsz : sizeLine = 16777216 := sizeLine_eq
    have ht := book_txt hb
    have hrep := repl_ok hb
    obtain ⟨hup, hupl⟩ := upper_ok ht
    generalize bookT n ws = x at ht hrep hup hupl
    have hxl := ht.len
    refine ⟨_, rfl, _, _, rfl, rfl, by rw [hsz]; decide +kernel, ?_⟩
    generalize hS : (" !\"#$&'()*+,-./0123456789:;<=>?@ABCDEFGHIJKLMNOPQRSTUVWXYZ" : Str) ++ ("[\\]^_`abcdefghijklmnopqrstuvwxyz{|}~\t\n" : Str) = S
    have hSa : ∀ c ∈ S.cps.toList, c < 128 := by rw [← hS]; decide +kernel
    have hSl : 0 < S.length ∧ S.length ≤ 200 := by rw [← hS]; decide +kernel
    clear hS
    have nb : ∀ m : Int, 0 ≤ m → m ≤ 1000 → m.natAbs < 2 ^ 4000 := fun m h0 h1 => Nat.lt_of_le_of_lt (show m.natAbs ≤ 1000 by omega) (by decide +kernel)
    refine ⟨_, rfl, _, rfl, _, rfl, by omega, _, _, rfl, rfl, t, a, ns, N, _, rfl, hJ, by omega, by omega, nb _ (by omega) (by omega), fun r H1 h10 h11 b1 J1 => ?_⟩
    refine ⟨_, rfl, _, rfl, _, rfl, _, rfl, by omega, t, a, ns, N + 1, _, rfl, J1, by omega, by omega, nb _ (by omega) (by omega), fun r2 H2 h20 h21 b2 J2 => ?_⟩
    obtain ⟨c, hc⟩ : ∃ c, S.cps.toList[r2.toNat]? = some c := ⟨_, List.getElem?_eq_getElem (by rw [len_list]; omega)⟩
    have hcs := pc_sign (hSa c (List.mem_of_getElem? hc))
    have hat : atI S.cps.toList r2 = some c := by
      unfold atI ixN
      rw [if_pos h20, if_pos (by rw [len_list]; omega)]
      exact hc
    refine ⟨S, r2, c, rfl, rfl, by omega, hat, ?_⟩
    have A1 := ht.to h10
    have A2 := ht.from (j := r + 1) (by omega)
    have A3 := ht.from h10
    have l1 := A1.len
    have l2 := A2.len
    have l3 := A3.len
    have l4 := (A1.app hcs).len
    have l5 := hcs.len
    have p1 : Pc 2 10 ("; " : Str) := pc_lit (by decide +kernel)
    have p2 : Pc 2 10 (";" : Str) := pc_lit (by decide +kernel)
    have p3 : Pc 2 10 (" " : Str) := pc_lit (by decide +kernel)
    have q1 := p1.len
    have q2 := p2.len
    have q3 := p3.len
    have hsl : x.length ≤ sizeLine := by omega
    refine ⟨_, rfl, _, rfl, _, rfl, x, rfl, hsl, _, rfl, _, _, rfl, rfl, by omega, _, rfl, _, rfl, _, _, rfl, rfl, _, rfl, x, rfl, hsl, _, _, rfl, rfl, by omega, ?_⟩
    refine ⟨_, rfl, _, rfl, _, rfl, x, rfl, hsl, _, rfl, _, _, rfl, rfl, by omega, _, rfl, _, rfl, _, rfl, x, rfl, hsl, _, _, rfl, rfl, by omega, ?_⟩
    refine ⟨_, rfl, _, _, rfl, rfl, by omega, _, rfl, _, _, rfl, rfl, by omega, _, rfl, _, _, rfl, rfl, by omega, by rw [hsz]; simp, fun y1 hy1 => ?_⟩
    have X0 := ht.pc
    obtain ⟨us1, hus1⟩ : ∃ us1 : List Str, us1 = [Txt.slice x none (some r) ++ ⟨#[c]⟩ ++ Txt.slice x (some (r + 1)) none, Txt.slice x none (some r) ++ ⟨#[c]⟩ ++ Txt.slice x (some r) none, x ++ ("; " : Str), x ++ (";" : Str), x ++ (" " : Str)] := ⟨_, rfl⟩
    have o1 : ∀ u ∈ us1, Ok51 u := by
      rw [hus1]
      simp only [List.forall_mem_cons]
      exact ⟨((A1.app hcs).app A2).ok (by decide) (by decide), ((A1.app hcs).app A3).ok (by decide) (by decide), (X0.app p1).ok (by decide) (by decide), (X0.app p2).ok (by decide) (by decide), (X0.app p3).ok (by decide) (by decide), fun _ h => by cases h⟩
    have n1 : us1.length = 5 := by rw [hus1]; rfl
    rw [show [V.str (Txt.slice x none (some r) ++ ⟨#[c]⟩ ++ Txt.slice x (some (r + 1)) none), V.str (Txt.slice x none (some r) ++ ⟨#[c]⟩ ++ Txt.slice x (some r) none), V.str (x ++ ("; " : Str)), V.str (x ++ (";" : Str)), V.str (x ++ (" " : Str))] = us1.map V.str by rw [hus1]; rfl]
    clear hus1
    have s1 := Same.new (o := .lst (us1.map V.str)) hy1
    have e1 : upd H2 y1 (.lst (us1.map V.str)) y1 = some (.lst (us1.map V.str)) := upd_same
    generalize upd H2 y1 (.lst (us1.map V.str)) = H3 at s1 e1 ⊢
    have p4 : Pc 2 10 ("; 0" : Str) := pc_lit (by decide +kernel)
    have p5 : Pc 2 10 ("; 5 6" : Str) := pc_lit (by decide +kernel)
    have p6 : Pc 2 10 ("; 00" : Str) := pc_lit (by decide +kernel)
    have p7 : Pc 2 10 (" 0" : Str) := pc_lit (by decide +kernel)
    have p8 : Pc 2 10 ("; 1000000" : Str) := pc_lit (by decide +kernel)
    have p9 : Pc 2 10 ("; 999999" : Str) := pc_lit (by decide +kernel)
    have q4 := p4.len
    have q5 := p5.len
    have q6 := p6.len
    have q7 := p7.len
    have q8 := p8.len
    have q9 := p9.len
    refine ⟨_, rfl, _, rfl, _, _, rfl, rfl, by omega, _, rfl, _, _, rfl, rfl, by omega, _, rfl, _, _, rfl, rfl, by rw [app_len]; omega, _, rfl, _, _, rfl, rfl, by omega, _, rfl, _, _, rfl, rfl, by omega, _, rfl, _, _, rfl, rfl, by omega, _, rfl, _, rfl, _, rfl, x, rfl, hsl, by rw [hsz]; simp, fun y2 hy2 => ?_⟩
    refine ⟨y1, y2, _, _, rfl, rfl, (Same.new hy2) _ _ e1, upd_same, by rw [List.length_map, n1]; simp [hsz], fun y3 hy3 => ?_⟩
    obtain ⟨us2, hus2⟩ : ∃ us2 : List Str, us2 = us1 ++ [(" " : Str) ++ x, x ++ ("; " : Str) ++ x, x ++ ("; 0" : Str), x ++ ("; 5 6" : Str), x ++ ("; 00" : Str), Txt.slice x none (some r)] := ⟨_, rfl⟩
    have o2 : ∀ u ∈ us2, Ok51 u := by
      rw [hus2]
      refine List.forall_mem_append.mpr ⟨o1, ?_⟩
      simp only [List.forall_mem_cons]
      exact ⟨(p3.app X0).ok (by decide) (by decide), ((X0.app p1).app X0).ok (by decide) (by decide), (X0.app p4).ok (by decide) (by decide), (X0.app p5).ok (by decide) (by decide), (X0.app p6).ok (by decide) (by decide), A1.ok (by decide) (by decide), fun _ h => by cases h⟩
    have n2 : us2.length = 11 := by rw [hus2, List.length_append, n1]; rfl
    rw [show us1.map V.str ++ [V.str ((" " : Str) ++ x), V.str (x ++ ("; " : Str) ++ x), V.str (x ++ ("; 0" : Str)), V.str (x ++ ("; 5 6" : Str)), V.str (x ++ ("; 00" : Str)), V.str (Txt.slice x none (some r))] = us2.map V.str by rw [hus2, List.map_append]; rfl]
    clear hus2
    have s2 := s1.trans ((Same.new hy2).trans (Same.new (o := .lst (us2.map V.str)) hy3))
    have e2 := (upd_same : upd (upd H3 y2 (.lst [V.str ((" " : Str) ++ x), V.str (x ++ ("; " : Str) ++ x), V.str (x ++ ("; 0" : Str)), V.str (x ++ ("; 5 6" : Str)), V.str (x ++ ("; 00" : Str)), V.str (Txt.slice x none (some r))])) y3 (.lst (us2.map V.str)) y3 = _)
    generalize upd (upd H3 y2 (.lst [V.str ((" " : Str) ++ x), V.str (x ++ ("; " : Str) ++ x), V.str (x ++ ("; 0" : Str)), V.str (x ++ ("; 5 6" : Str)), V.str (x ++ ("; 00" : Str)), V.str (Txt.slice x none (some r))])) y3 (.lst (us2.map V.str)) = H4 at s2 e2 ⊢
    refine ⟨_, rfl, _, rfl, _, _, rfl, rfl, by omega, _, rfl, _, _, rfl, rfl, by omega, _, rfl, _, _, rfl, rfl, by omega, x, rfl, by rw [show (";" : Str).length = 1 by decide +kernel]; omega, _, rfl, rfl, x, rfl, rfl, by omega, by rw [hsz]; simp, fun y4 hy4 => ?_⟩
    refine ⟨y3, y4, _, _, rfl, rfl, (Same.new hy4) _ _ e2, upd_same, by rw [List.length_map, n2]; simp [hsz], fun y5 hy5 => ?_⟩
    obtain ⟨us3, hus3⟩ : ∃ us3 : List Str, us3 = us2 ++ [x ++ (" 0" : Str), x ++ ("; 1000000" : Str), x ++ ("; 999999" : Str), Txt.replace x "; " ";", Txt.upper x] := ⟨_, rfl⟩
    have o3 : ∀ u ∈ us3, Ok51 u := by
      rw [hus3]
      refine List.forall_mem_append.mpr ⟨o2, ?_⟩
      simp only [List.forall_mem_cons]
      exact ⟨(X0.app p7).ok (by decide) (by decide), (X0.app p8).ok (by decide) (by decide), (X0.app p9).ok (by decide) (by decide), hrep, hup, fun _ h => by cases h⟩
    have n3 : us3.length = 16 := by rw [hus3, List.length_append, n2]; rfl
    rw [show us2.map V.str ++ [V.str (x ++ (" 0" : Str)), V.str (x ++ ("; 1000000" : Str)), V.str (x ++ ("; 999999" : Str)), V.str (Txt.replace x "; " ";"), V.str (Txt.upper x)] = us3.map V.str by rw [hus3, List.map_append]; rfl]
    clear hus3
    have s3 := s2.trans ((Same.new hy4).trans (Same.new (o := .lst (us3.map V.str)) hy5))
    have e3 := (upd_same : upd (upd H4 y4 (.lst [V.str (x ++ (" 0" : Str)), V.str (x ++ ("; 1000000" : Str)), V.str (x ++ ("; 999999" : Str)), V.str (Txt.replace x "; " ";"), V.str (Txt.upper x)])) y5 (.lst (us3.map V.str)) y5 = _)
    generalize upd (upd H4 y4 (.lst [V.str (x ++ (" 0" : Str)), V.str (x ++ ("; 1000000" : Str)), V.str (x ++ ("; 999999" : Str)), V.str (Txt.replace x "; " ";"), V.str (Txt.upper x)])) y5 (.lst (us3.map V.str)) = H5 at s3 e3 ⊢
    have n3' : (us3.map V.str).length = 16 := by rw [List.length_map, n3]
    refine ⟨_, rfl, _, rfl, _, rfl, y5, _, rfl, .inl (SqL.of e3), t, a, ns, N + 2, _, rfl, J2.same s3, by omega, by rw [n3']; decide, nb _ (by rw [n3']; decide) (by rw [n3']; decide), fun r3 H6 h30 h31 b3 J3 => ?_⟩
    rw [n3'] at h31
    obtain ⟨u, hu⟩ : ∃ u, us3[r3.toNat]? = some u := ⟨_, List.getElem?_eq_getElem (by rw [n3]; omega)⟩
    refine ⟨y5, _, r3, .str u, rfl, rfl, SqL.of (b3 _ _ ((J2.same (s2.trans (Same.new hy4))).ne hy5) e3), ?_, k u H6 (o3 u (List.mem_of_getElem? hu)) (b1.trans (b2.trans ((But.of s3).trans b3))) J3⟩
    unfold atI ixN
    rw [if_pos h30, if_pos (by rw [n3']; omega)]
    show (us3.map V.str)[r3.toNat]? = _
    rw [List.getElem?_map, hu]
    rfl
end
end Ab
set_option Elab.async false
set_option linter.all false
set_option maxRecDepth 100000
namespace L2
open PySem
theorem set_go {te : TE} {i : Nat} {u : TS} {D : Ends} {σ : St} {H : Hp} (h : te σ H fun v H1 => u D (σ.set i (some v)) H1) : tSeq (tAsg te (gName i)) u D σ H := h
theorem seq_cut2 {t u : TS} {D : Ends} {σ : St} {H : Hp} (I : St → Hp → Prop) (h1 : ∀ N : St → Hp → Prop, (∀ σ' H', I σ' H' → N σ' H') → t { D with nx := N } σ H) (h2 : ∀ σ' H', I σ' H' → u D σ' H') : tSeq t u D σ H := h1 _ h2
section
variable {K : PySem.W.Frag} {S : List Addr} {H H0 : Hp} {σ : St} {te ta tb ts : TE} {t tr : TA} {d : PyData} {ds es : List PyData}
def ED (K : PySem.W.Frag) (S : List Addr) (d : PyData) : Hp → V → Prop := fun H v => Den K (Vw S H) d v
instance : Mo (ED K S d) := ⟨fun e h => (Vw.same e).den _ _ h⟩
def EDs (H0 : Hp) (K : PySem.W.Frag) (S : List Addr) (ds : List PyData) (t : TA) (σ : St) : Prop := ∀ H, Same H0 H → Fx S H → ∀ Q : List V → Hp → Prop, (∀ vs H', Same H H' → DenAll K (Vw S H') ds vs → Q vs H') → t σ H Q
theorem eds_nil : EDs H0 K S [] tNil σ := fun H _ _ Q k => k [] H (Same.refl H) (denAll_nil.mpr rfl)
theorem eds_cons (h : Al H0 S te σ (ED K S d)) (r : EDs H0 K S ds tr σ) : EDs H0 K S (d :: ds) (tCons te tr) σ := fun H s f Q k => h H s f _ fun v H1 s1 d1 => r H1 (s.trans s1) (f.same s1) _ fun vs H2 s2 d2 => k _ _ (s1.trans s2) (denAll_cons.mpr ⟨v, vs, rfl, (Vw.same s2).den _ _ d1, d2⟩)
theorem ed_int {i : Int} : Al H0 S (tC (.int i)) σ (ED K S (.int i)) := al_c (R := ED K S (.int i)) (den_int.mpr rfl)
theorem ed_non : Al H0 S (tC .non) σ (ED K S .none) := al_c (R := ED K S .none) (den_none.mpr rfl)
theorem ed_bl {b : Bool} : Al H0 S (tC (.bl b)) σ (ED K S (.bool b)) := al_c (R := ED K S (.bool b)) (den_bool.mpr rfl)
theorem ed_neg {i : Int} : Al H0 S (tUn (rU fun i => .int (-i)) (tC (.int i))) σ (ED K S (.int (-i))) := fun H s f Q k => ⟨i, rfl, k _ H (Same.refl H) (den_int.mpr rfl)⟩
theorem ed_var {i : Nat} {v : V} (h : σ[i]? = some (some v)) (r : Den K (Vw S H0) d v) : Al H0 S (tVar i) σ (ED K S d) := al_var (R := ED K S d) h r
theorem ed_tup (h : EDs H0 K S ds t σ) (hn : ds.length ≤ 1000 := by simp) : Al H0 S (tTup t) σ (ED K S (.tuple ds)) := fun H s f Q k => h H s f _ fun vs H1 s1 d => ⟨by rw [denAll_length d, sizeLine_eq]; omega, fun p hp => k _ _ (s1.trans (Same.new hp)) (den_tuple.mpr ⟨p, vs, rfl, SqT.of (Vw.at (f.same s1) hp), (Vw.same (Same.new hp)).denAll _ _ d⟩)⟩
theorem ed_lst (h : EDs H0 K S ds t σ) (hn : ds.length ≤ 1000 := by simp) : Al H0 S (tLst t) σ (ED K S (.list ds)) := fun H s f Q k => h H s f _ fun vs H1 s1 d => ⟨by rw [denAll_length d, sizeLine_eq]; omega, fun p hp => k _ _ (s1.trans (Same.new hp)) (den_list.mpr ⟨p, vs, rfl, SqL.of (Vw.at (f.same s1) hp), (Vw.same (Same.new hp)).denAll _ _ d⟩)⟩
theorem ed_listof (ha : Al H0 S ta σ (ED K S (.tuple ds))) : Al H0 S (tCB (rListOf K) (tCons ta tNil)) σ (ED K S (.list ds)) := fun H s f Q k => ha H s f _ fun v H1 s1 d1 => by
  obtain ⟨p, xs, rfl, g, hxs⟩ := den_tuple.mp d1
  exact ⟨p, xs, rfl, .inr (Vw.sub.seqT g), fun q hq => k _ _ (s1.trans (Same.new hq)) (den_list.mpr ⟨q, xs, rfl, SqL.of (Vw.at (f.same s1) hq), (Vw.same (Same.new hq)).denAll _ _ hxs⟩)⟩
theorem lst_goD {Q : VK} (f : Fx S H) (h : EDs H K S ds t σ) (k : ∀ p xs H1, Same H H1 → H1 p = none → DenAll K (Vw S H1) ds xs → Q (.ref p) (upd H1 p (.lst xs))) (hn : ds.length ≤ 1000 := by simp) : tLst t σ H Q := h H (Same.refl H) f _ fun vs H1 s1 d => ⟨by rw [denAll_length d, sizeLine_eq]; omega, fun p hp => k p vs H1 s1 hp d⟩
theorem ed_str {x : Str} : Al H0 S (tC (.str x)) σ (ED K S (.str x)) := al_c (R := ED K S (.str x)) (den_str.mpr rfl)
end
end L2
namespace Ab
open PySem L2
def badsD (n far : Int) : List PyData := [.tuple [], .tuple [.int n], .tuple [.int (n + far)], .tuple [.int (-1)], .tuple [.int 0, .int 0], .tuple [.int 1, .int 0], .tuple [.bool true], .tuple [.none], .tuple [.str "0"], .list [.int 0], .none, .int 0, .str "0"]
theorem bads_no {n far : Int} (hf : 0 ≤ far) : ∀ d ∈ badsD n far, isWork n d = false := by
  intro d hd
  unfold badsD at hd
  simp only [List.mem_cons, List.not_mem_nil, or_false] at hd
  have e1 : ¬ (n < n) := by omega
  have e2 : ¬ (n + far < n) := by omega
  rcases hd with rfl | rfl | rfl | rfl | rfl | rfl | rfl | rfl | rfl | rfl | rfl | rfl | rfl <;> simp [isWork, risesP, e1, e2]
theorem book_bad {n : Int} {d : PyData} {a b : List PyData} (h : isWork n d = false) : isBook (.tuple [.int n, .tuple (a ++ [d] ++ b)]) = false := by
  show (decide (1 ≤ n) && decide (n ≤ 6) && decide ((a ++ [d] ++ b).length ≤ 12) && (a ++ [d] ++ b).all (isWork n)) = false
  simp [h]
section
variable {K : PySem.W.Frag} {S : List Addr} {H H' H0 : Hp}
mutual
theorem Fx.den (f : Fx S H) : ∀ (d : PyData) (v : V), noList d = true → Den K H d v → Den K (Vw S H) d v
  | .none, v, _, h => by unfold Den at h ⊢; exact h
  | .bool b, v, _, h => by unfold Den at h ⊢; exact h
  | .int i, v, _, h => by unfold Den at h ⊢; exact h
  | .str x, v, _, h => by unfold Den at h ⊢; exact h
  | .list ds, v, n, h => by unfold noList at n; cases n
  | .tuple ds, v, n, h => by unfold noList at n; unfold Den at h ⊢; obtain ⟨a, xs, h1, h2, h3⟩ := h; exact ⟨a, xs, h1, f.seqT h2, Fx.denAll f ds xs n h3⟩
  | .dict kvs, v, n, h => by unfold noList at n; cases n
theorem Fx.denAll (f : Fx S H) : ∀ (ds : List PyData) (xs : List V), noLists ds = true → DenAll K H ds xs → DenAll K (Vw S H) ds xs
  | [], xs, _, h => by unfold DenAll at h ⊢; exact h
  | d :: ds, xs, n, h => by
    unfold noLists at n; rw [Bool.and_eq_true] at n
    unfold DenAll at h ⊢; obtain ⟨x, r, h1, h2, h3⟩ := h; exact ⟨x, r, h1, Fx.den f d x n.1 h2, Fx.denAll f ds r n.2 h3⟩
end
end
section
variable {P : Program} {w : World} {K : PySem.W.Frag} {mg : Str → Option Value} {base : Heap}
theorem But.vw {t : Addr} {S : List Addr} {H H' : Hp} (e : But t H H') (h : t ∈ S) : Same (Vw S H) (Vw S H') := Vw.keep fun b o n q => e b o (fun z => n (z ▸ h)) q
def spNoBooks (K : PySem.W.Frag) : Sp := fun vs H Q _ => ∃ (t a : Addr) (ns : List Int) (N : Nat), vs = [.ref t] ∧ Jar K H t a ns N ∧ N ≤ 600000 ∧
  ∀ p xs ds H', But t H H' → H' p = some (.lst xs) → DenAll K H' ds xs → (∀ d ∈ ds, isBook d = false) → ds.length ≤ 100 → Q (.ref p) H'
theorem scNoBooks : FnScope ["jar", "hands", "works", "far", "at", "found", "bad"] ["jar"] (defScope sNoBooks) := ⟨rfl, rfl, rfl, by decide +kernel, rfl, by decide +kernel, by decide +kernel⟩
def faE : Expr := match (defBody sNoBooks).getD 4 (.Pass ⟨0, 0, 0, 0⟩) with
  | .For _ e _ _ _ => e
  | _ => .Constant .none 0 ⟨0, 0, 0, 0⟩
theorem fa_list {X : Cx} {Z : List Addr} {n far : Int} (h2 : X.N[1]? = some ("hands" : Str)) (l2 : X.env.scope.names.lookup ("hands" : Str) = some .local) (h4 : X.N[3]? = some ("far" : Str)) (l4 : X.env.scope.names.lookup ("far" : Str) = some .local) :
    PEo X faE (tLs K Z (fun σ => σ[1]? = some (some (.int n)) ∧ σ[3]? = some (some (.int far))) (badsD n far)) :=
  lso_lst (da_cons (dt_tup da_nil) (da_cons (dt_tup (da_cons (dt_val (v := .int n) (pv 1 h2 (.inl l2)) (fun σ H Q s q => ⟨_, s.1, q⟩) (fun H => den_int.mpr rfl)) da_nil se_name) (by show 1 ≤ 1000; decide))
    (da_cons (dt_tup (da_cons (dt_val (v := .int (n + far)) (pe_op op_add (pv 1 h2 (.inl l2)) (pv 3 h4 (.inl l4))) (fun σ H Q s q => ⟨_, s.1, _, s.2, _, _, rfl, rfl, q⟩) (fun H => den_int.mpr rfl)) da_nil se_bin) (by show 1 ≤ 1000; decide))
    (da_cons (dt_tup (da_cons dt_neg da_nil se_un)) (da_cons (dt_tup (da_cons dt_int (da_cons dt_int da_nil se_const) se_const)) (da_cons (dt_tup (da_cons dt_int (da_cons dt_int da_nil se_const) se_const))
    (da_cons (dt_tup (da_cons dt_bl da_nil se_const)) (da_cons (dt_tup (da_cons dt_non da_nil se_const)) (da_cons (dt_tup (da_cons dt_str da_nil se_const)) (da_cons (dt_lst (da_cons dt_int da_nil se_const)) (da_cons dt_non (da_cons dt_int (da_cons dt_str
    da_nil se_const) se_const) se_const) se_lst) se_tup) se_tup) se_tup) se_tup) se_tup) se_tup) se_tup) se_tup) se_tup) (by show 13 ≤ 1000; decide)
def tFa (K : PySem.W.Frag) : TE := fun σ H Q => ∃ (Z : List Addr) (n far : Int), tLs K Z (fun σ => σ[1]? = some (some (.int n)) ∧ σ[3]? = some (some (.int far))) (badsD n far) σ H Q
theorem fa_all {X : Cx} (h2 : X.N[1]? = some ("hands" : Str)) (l2 : X.env.scope.names.lookup ("hands" : Str) = some .local) (h4 : X.N[3]? = some ("far" : Str)) (l4 : X.env.scope.names.lookup ("far" : Str) = some .local) : PEo X faE (tFa K) := by
  constructor
  intro pins s σ H Q I h
  obtain ⟨Z, n, far, h⟩ := h
  obtain ⟨go⟩ := fa_list (K := K) (Z := Z) (n := n) (far := far) h2 l2 h4 l4
  exact go pins s σ H Q I h
theorem ed_dict0 {K : PySem.W.Frag} {S : List Addr} {H0 : Hp} {σ : St} : Al H0 S tDict0 σ (ED K S (.dict [])) := fun H s f Q k p hp => k (.ref p) _ (Same.new hp) (den_dict.mpr ⟨rfl, p, rfl, Vw.at f hp⟩)
theorem ed_op0 {K : PySem.W.Frag} {S : List Addr} {H0 : Hp} {σ : St} {ta tb : TE} {i j : Int} {g : Int → Int → Int} (ha : Al H0 S ta σ (ED K S (.int i))) (hb : Al H0 S tb σ (ED K S (.int j))) : Al H0 S (tOp (rI0 fun i j => .int (g i j)) ta tb) σ (ED K S (.int (g i j))) := fun H s f Q k => ha H s f _ fun v H1 s1 d1 => hb H1 (s.trans s1) (f.same s1) _ fun u H2 s2 d2 => ⟨i, j, den_int.mp d1, den_int.mp d2, k _ H2 (s1.trans s2) (den_int.mpr rfl)⟩
def tailA (n : Int) (W : PyData) (L : List PyData) : List PyData := [.tuple [.bool true, W], .tuple [.str "1", W], .tuple [.none, W], .tuple [.int 0, W], .tuple [.int 7, W], .tuple [.int n, .list L]]
def tailB (n : Int) (W : PyData) : List PyData := [.list [.int n, W], .tuple [.int n], .tuple [.int n, W, .tuple []], .tuple [W, .int n], .dict [], .int n, W, .bool true]
def tailC (n far : Int) (W : PyData) : List PyData := [.tuple [.int n, .none], .tuple [.int n, .str "0"], .tuple [.int (-1 - far), W], .tuple [.int (7 + far), W]]
theorem tails_no {n far : Int} {ws : List (List Int)} (hf : 0 ≤ far) (h1 : 1 ≤ n) : ∀ d ∈ tailA n (.tuple (ws.map workD)) (ws.map workD) ++ (tailB n (.tuple (ws.map workD)) ++ tailC n far (.tuple (ws.map workD))), isBook d = false := by
  intro d hd
  unfold tailA tailB tailC at hd
  simp only [List.mem_append, List.mem_cons, List.not_mem_nil, or_false] at hd
  have e1 : ¬ (1 ≤ -1 - far) := by omega
  have e2 : ¬ (7 + far ≤ 6) := by omega
  have e3 : isBook (.tuple (ws.map workD)) = false := by
    cases ws with
    | nil => rfl
    | cons l r => cases r with
      | nil => rfl
      | cons l2 r2 => cases r2 with
        | nil => rfl
        | cons _ _ => rfl
  rcases hd with (rfl | rfl | rfl | rfl | rfl | rfl) | (rfl | rfl | rfl | rfl | rfl | rfl | rfl | rfl) | (rfl | rfl | rfl | rfl) <;> first | rfl | exact e3 | simp [isBook, bookOf, areHands, isWhole, e1, e2]
set_option maxHeartbeats 8000000 in
theorem ok_nobooks {f fS fE : Addr} {fd dS dE : FuncData} (G : Fn K mg "_law_e_no_books" sNoBooks ["jar"] f fd) (B : Bl mg) (GSc : Fn K mg "_law_e_scoop" sScoop ["jar", "many"] fS dS) (OSc : FnOk P w K mg base CX0 2 fS dS ["jar", "many"] (spScoop K)) (GEb : Fn K mg "_law_e_book" sEBook ["jar", "most"] fE dE) (OEb : FnOk P w K mg base CX0 4 fE dE ["jar", "most"] (spEBook K)) : FnOk P w K mg base CX0 5 f fd ["jar"] (spNoBooks K) := by
  refine G.fn.ok scNoBooks (fun vs H Q E h => ?_) (fun cdv A outer s H vs Q E hr h => ?_)
  · obtain ⟨t, a, ns, N, rfl, _⟩ := h
    rfl
  · obtain ⟨t, a, ns, N, rfl, hJ, hN, k⟩ := h
    have r2 : Room 2 _ := hr.mono (by decide)
    have r4 : Room 4 _ := hr
    refine PSso.ex (psso_cons ⟨ps_asg (pe_fn GEb OEb r4 rfl (pa_cons (pv 0) (pa_cons pe_int pa_nil))) (pg_tup rfl (pgs_cons (pg_name (i := 1) scNoBooks.nd rfl (Or.inl rfl)) (pgs_cons (pg_name (i := 2) scNoBooks.nd rfl (Or.inl rfl)) pgs_nil)))⟩
      (psso_cons ⟨ps_set (i := 3) scNoBooks.nd rfl (Or.inl rfl) (pe_fn GSc OSc r2 rfl (pa_cons (pv 0) (pa_cons (pe_op op_pow pe_int pe_int) pa_nil)))⟩
      (psso_cons ⟨ps_set (i := 4) scNoBooks.nd rfl (Or.inl rfl) (pe_fn GSc OSc r2 rfl (pa_cons (pv 0) (pa_cons (pe_op op_add (pe_callB call_len_seq rfl B.len b_len (pa_cons (pv 2) pa_nil)) pe_int) pa_nil)))⟩
      (psso_cons ⟨ps_set (i := 5) scNoBooks.nd rfl (Or.inl rfl) (pe_lst pa_nil)⟩
      (psso_cons (pso_forList PassesOwn.never rfl (fa_all (K := K) rfl rfl rfl rfl) (pg_name (i := 6) scNoBooks.nd rfl (Or.inl rfl))
        (psso_one ⟨ps_expr (pe_bm PySem.F.plainAttrs_list PySem.F.slot_list_append PySem.F.type_list_append mt_append (pv 5) (pa_cons (pe_tup (pa_cons (pv 1) (pa_cons (pe_op (op_cat2K (K := K) rfl) (pe_op (op_cat2K (K := K) rfl) (pe_slice (sl_tup2K (K := K) rfl) (pv 2) po_none (po_some (pv 4))) (pe_tup (pa_cons (pv 6) pa_nil))) (pe_slice (sl_tup2K (K := K) rfl) (pv 2) (po_some (pv 4)) po_none)) pa_nil))) pa_nil))⟩) fs_list)
      (psso_cons ⟨ps_set (i := 5) scNoBooks.nd rfl (Or.inl rfl) (pe_op op_cat (pv 5) (pe_lst (pa_cons (pe_tup (pa_cons pe_bl (pa_cons (pv 2) pa_nil))) (pa_cons (pe_tup (pa_cons pe_str (pa_cons (pv 2) pa_nil))) (pa_cons (pe_tup (pa_cons pe_non (pa_cons (pv 2) pa_nil))) (pa_cons (pe_tup (pa_cons pe_int (pa_cons (pv 2) pa_nil))) (pa_cons (pe_tup (pa_cons pe_int (pa_cons (pv 2) pa_nil))) (pa_cons (pe_tup (pa_cons (pv 1) (pa_cons (pe_callTy (call_list_ofK (K := K) rfl) rfl B.list b_list (pa_cons (pv 2) pa_nil)) pa_nil))) pa_nil))))))))⟩
      (psso_cons ⟨ps_set (i := 5) scNoBooks.nd rfl (Or.inl rfl) (pe_op op_cat (pv 5) (pe_lst (pa_cons (pe_lst (pa_cons (pv 1) (pa_cons (pv 2) pa_nil))) (pa_cons (pe_tup (pa_cons (pv 1) pa_nil)) (pa_cons (pe_tup (pa_cons (pv 1) (pa_cons (pv 2) (pa_cons (pe_tup pa_nil) pa_nil)))) (pa_cons (pe_tup (pa_cons (pv 2) (pa_cons (pv 1) pa_nil))) (pa_cons pe_dict0 (pa_cons (pv 1) (pa_cons (pv 2) (pa_cons pe_bl pa_nil))))))))))⟩
      (psso_one ⟨ps_ret (pe_op op_cat (pv 5) (pe_lst (pa_cons (pe_tup (pa_cons (pv 1) (pa_cons pe_non pa_nil))) (pa_cons (pe_tup (pa_cons (pv 1) (pa_cons pe_str pa_nil))) (pa_cons (pe_tup (pa_cons (pe_op op_sub (pe_un un_neg pe_int) (pv 3)) (pa_cons (pv 2) pa_nil))) (pa_cons (pe_tup (pa_cons (pe_op op_add pe_int (pv 3)) (pa_cons (pv 2) pa_nil))) pa_nil))))))⟩)))))))) ?_
    refine ⟨_, rfl, t, a, ns, N, 11, rfl, by decide, by decide, hJ, by omega, fun n ws x H1 hb b1 J1 hx => ?_⟩
    obtain ⟨c, b, ys, e, hc, hb1, hys1⟩ := den_book hx
    cases e
    obtain ⟨hn1, hn6, h12, hwk⟩ := book_parts hb
    have hlw := denAll_length hys1
    rw [List.length_map] at hlw
    have nl := noLists_map _ noList_work ws
    refine ⟨x, _, rfl, hc, rfl, _, _, rfl, _, _, rfl, rfl, ?_⟩
    refine ⟨_, rfl, _, _, rfl, rfl, ⟨by decide, by decide, by decide⟩, t, a, ns, N + 100, 100000000000000000000, rfl, J1, by omega, by decide, by decide +kernel, fun far H2 hf0 hf1 b2 J2 => ?_⟩
    have hb2 := J1.seqT b2 hb1
    have hys2 := J1.denAll b2 nl hys1
    refine ⟨_, rfl, _, rfl, b, ys, rfl, .inr hb2, _, _, rfl, rfl, t, a, ns, _, _, rfl, J2, by omega, by omega, Nat.lt_of_le_of_lt (show ((ys.length : Int) + 1).natAbs ≤ 1000 by omega) (by decide +kernel), fun at0 H3 ha0 ha1 b3 J3 => ?_⟩
    obtain ⟨m, rfl⟩ : ∃ m : Nat, at0 = m := ⟨at0.toNat, by omega⟩
    have hb3 := J2.seqT b3 hb2
    have hys3 := J2.denAll b3 nl hys2
    refine ⟨size1 (Nat.zero_le _), fun fl hfl => ?_⟩
    have ntf : t ≠ fl := fun z => J3.ne hfl z.symm
    have s4 := Same.new (o := .lst []) hfl
    obtain ⟨tz, ht3⟩ : ∃ tz, H3 t = some (.lst tz) := by obtain ⟨⟨p, q, _, _, e⟩, _⟩ := J3; exact ⟨_, e⟩
    have ht4 := s4 _ _ ht3
    have hb4 := s4.seqT hb3
    have hys4 := s4.denAll _ _ hys3
    have hfl4 : upd H3 fl (.lst []) fl = some (.lst []) := upd_same
    have b04 : But t H (upd H3 fl (.lst [])) := (b1.trans (b2.trans b3)).trans (But.of s4)
    have hfl0 : H fl = none := (b1.trans (b2.trans b3)).free hfl (Ne.symm ntf)
    generalize upd H3 fl (.lst []) = H4 at s4 ht4 hb4 hys4 hfl4 b04 ⊢
    have fx : ∀ {H' : Hp} {xs : List V}, H' fl = some (.lst xs) → H' t = some (.lst tz) → Fx [fl, t] H' := fun {H' xs} h1 h2 b hb => by
      rcases List.mem_cons.mp hb with rfl | hb
      · exact ⟨_, h1⟩
      · rw [List.mem_singleton.mp hb]; exact ⟨_, h2⟩
    refine ⟨[fl, t], n, far, ⟨rfl, rfl⟩, fx hfl4 ht4, fun pb bs H5 s5 npb hpb hbs => ?_⟩
    have npf : pb ≠ fl := fun z => by rw [z, hfl4] at npb; cases npb
    have hfl5 := s5 _ _ hfl4
    have ht5 := s5 _ _ ht4
    refine ⟨pb, rfl, ⟨_, SqL.of hpb⟩, for_list (K := K) (a := pb) (xs := bs) (fun i σ H6 => ∃ xs ds v, σ = [some (.ref t), some (.int n), some (.ref b), some (.int far), some (.int m), some (.ref fl), v] ∧ H6 fl = some (.lst xs) ∧ DenAll K (Vw [fl, t] H6) ds xs ∧ (∀ d ∈ ds, isBook d = false) ∧ ds.length = i ∧ But fl H5 H6)
      ⟨[], [], none, rfl, hfl5, denAll_nil.mpr rfl, fun _ h => (List.not_mem_nil h).elim, rfl, But.refl _ _⟩ (fun i σ H6 _ ⟨_, _, _, _, _, _, _, _, b6⟩ => b6.seqL npf (SqL.of hpb)) ?_ ?_⟩
    · rintro i y σ H6 hy ⟨xs, ds, v, rfl, hx6, hd, hno, hl, b6⟩
      have hi : i < bs.length := (List.getElem?_eq_some_iff.mp hy).1
      have hb14 : bs.length = 13 := denAll_length hbs
      have hxl := denAll_length hd
      obtain ⟨d, hdi, hdy⟩ := denAll_at ((But.vw (S := [fl, t]) b6 (List.mem_cons_self ..)).denAll _ _ hbs) hy
      have hbw := bads_no hf0 d (List.mem_of_getElem? hdi)
      have hb6 := b6.seqT hfl5 (s5.seqT hb4)
      have hys6 := b6.denAll hfl5 _ _ nl (s5.denAll _ _ hys4)
      refine ⟨_, rfl, .inl ⟨rfl, _, SqL.of hx6⟩, _, rfl, _, rfl, _, rfl, _, rfl, b, ys, rfl, hb6, fun p1 H7 s7 q7 => ?_⟩
      refine ⟨_, rfl, sz1 _, fun p2 h2 => ?_⟩
      have l1 := cutV_len (xs := ys) (lo := none) (hi := some (m : Int))
      have l2 := cutV_len (xs := ys) (lo := some (m : Int)) (hi := none)
      refine ⟨p1, p2, _, _, rfl, rfl, (Same.new h2).seqT q7, SqT.of upd_same, by rw [sizeLine_eq]; show _ + 1 ≤ _; omega, fun p3 H8 s8 q8 => ?_⟩
      have s68 := s7.trans ((Same.new h2).trans s8)
      refine ⟨_, rfl, _, rfl, _, rfl, b, ys, rfl, s68.seqT hb6, fun p4 H9 s9 q9 => ?_⟩
      refine ⟨p3, p4, _, _, rfl, rfl, s9.seqT q8, q9, by rw [sizeLine_eq, List.length_append]; show _ + 1 + _ ≤ _; omega, fun p5 H10 s10 q10 => ?_⟩
      refine ⟨sz2 _ _, fun p6 h6 => ?_⟩
      have s611 := s68.trans (s9.trans (s10.trans (Same.new (o := .tup [.int n, .ref p5]) h6)))
      have q11 : SqT K (upd H10 p6 (.tup [.int n, .ref p5])) p6 [.int n, .ref p5] := SqT.of upd_same
      have q105 := (Same.new (o := .tup [.int n, .ref p5]) h6).seqT q10
      generalize upd H10 p6 (.tup [.int n, .ref p5]) = H11 at s611 q11 q105 ⊢
      have hx11 := s611 _ _ hx6
      have f11 : Fx [fl, t] H11 := fx hx11 (s611 _ _ (b6 _ _ ntf ht5))
      refine ⟨fl, xs, .ref p6, rfl, rfl, hx11, by rw [sizeLine_eq]; omega, ?_⟩
      have hysV := Ab.Fx.denAll f11 _ _ nl (s611.denAll _ _ hys6)
      obtain ⟨dA, hA⟩ := dens_of (K := K) (H := Vw [fl, t] H11) (xs := cutV ys none (some (m : Int))) fun x hx => den_each hysV x (cutV_mem hx)
      obtain ⟨dB, hB⟩ := dens_of (K := K) (H := Vw [fl, t] H11) (xs := cutV ys (some (m : Int)) none) fun x hx => den_each hysV x (cutV_mem hx)
      have hdV := (Vw.same (S := [fl, t]) s611).den _ _ hdy
      have key : Den K (Vw [fl, t] H11) (.tuple [.int n, .tuple (dA ++ [d] ++ dB)]) (.ref p6) := den_tuple.mpr ⟨p6, _, rfl, f11.seqT q11, denAll_cons.mpr ⟨_, _, rfl, den_int.mpr rfl, denAll_cons.mpr ⟨_, _, rfl, den_tuple.mpr ⟨p5, _, rfl, f11.seqT q105, denAll_append (denAll_append hA (denAll_cons.mpr ⟨_, _, rfl, hdV, denAll_nil.mpr rfl⟩)) hB⟩, denAll_nil.mpr rfl⟩⟩⟩
      have b12 : But fl H11 (upd H11 fl (.lst (xs ++ [.ref p6]))) := But.at
      refine ⟨xs ++ [.ref p6], ds ++ [.tuple [.int n, .tuple (dA ++ [d] ++ dB)]], _, rfl, upd_same, (But.vw (S := [fl, t]) b12 (List.mem_cons_self ..)).denAll _ _ (denAll_append ((Vw.same s611).denAll _ _ hd) (denAll_cons.mpr ⟨_, _, rfl, key, denAll_nil.mpr rfl⟩)), fun d2 h2 => ?_, by rw [List.length_append, hl]; rfl, b6.trans ((But.of s611).trans b12)⟩
      rcases List.mem_append.mp h2 with h | h
      · exact hno d2 h
      · rw [List.mem_singleton.mp h]; exact book_bad hbw
    · rintro σ H6 ⟨xs, ds, v, rfl, hx6, hd, hno, hl, b6⟩
      have hl13 : ds.length = 13 := hl.trans (denAll_length hbs)
      have hxl := denAll_length hd
      have ht6 := b6 _ _ ntf ht5
      have f6 := fx hx6 ht6
      have b06 : But t H H6 := fun b' o nb hb' => b6 b' o (fun z => by rw [z, hfl0] at hb'; cases hb') (s5 _ _ (b04 b' o nb hb'))
      have hW : ∀ {H'}, Same H6 H' → Den K (Vw [fl, t] H') (.tuple (ws.map workD)) (.ref b) := fun {H'} s' => (Vw.same s').den _ _ (den_tuple.mpr ⟨b, ys, rfl, f6.seqT (b6.seqT hfl5 (s5.seqT hb4)), Ab.Fx.denAll f6 _ _ nl (b6.denAll hfl5 _ _ nl (s5.denAll _ _ hys4))⟩)
      have hI : ∀ {H'} (z : Int), Den K (Vw [fl, t] H') (.int z) (.int z) := fun z => den_int.mpr rfl
      refine ⟨_, rfl, lst_goD (K := K) (S := [fl, t]) (ds := tailA n (.tuple (ws.map workD)) (ws.map workD)) f6 (eds_cons (ed_tup (eds_cons ed_bl (eds_cons (ed_var rfl (hW (Same.refl _))) eds_nil))) (eds_cons (ed_tup (eds_cons ed_str (eds_cons (ed_var rfl (hW (Same.refl _))) eds_nil))) (eds_cons (ed_tup (eds_cons ed_non (eds_cons (ed_var rfl (hW (Same.refl _))) eds_nil))) (eds_cons (ed_tup (eds_cons ed_int (eds_cons (ed_var rfl (hW (Same.refl _))) eds_nil))) (eds_cons (ed_tup (eds_cons ed_int (eds_cons (ed_var rfl (hW (Same.refl _))) eds_nil))) (eds_cons (ed_tup (eds_cons (ed_var rfl (hI n)) (eds_cons (ed_listof (ed_var rfl (hW (Same.refl _)))) eds_nil))) eds_nil)))))) (fun y1 zs H7 s7 hy1 dz => ?_) (show 6 ≤ 1000 by decide)⟩
      have hz1 : zs.length = 6 := denAll_length dz
      refine ⟨fl, y1, _, _, rfl, rfl, (s7.trans (Same.new hy1)) _ _ hx6, upd_same, by rw [sizeLine_eq]; omega, fun y2 hy2 => ?_⟩
      have s8 := s7.trans ((Same.new (o := .lst zs) hy1).trans (Same.new (o := .lst (xs ++ zs)) hy2))
      have d8 : DenAll K (Vw [fl, t] (upd (upd H7 y1 (.lst zs)) y2 (.lst (xs ++ zs)))) (ds ++ tailA n (.tuple (ws.map workD)) (ws.map workD)) (xs ++ zs) := denAll_append ((Vw.same s8).denAll _ _ hd) ((Vw.same ((Same.new hy1).trans (Same.new hy2))).denAll _ _ dz)
      have e8 : upd (upd H7 y1 (.lst zs)) y2 (.lst (xs ++ zs)) y2 = some (.lst (xs ++ zs)) := upd_same
      have l8 : (xs ++ zs).length = 19 := by rw [List.length_append]; omega
      generalize upd (upd H7 y1 (.lst zs)) y2 (.lst (xs ++ zs)) = H8 at s8 d8 e8 ⊢
      have f8 := f6.same s8
      refine ⟨_, rfl, lst_goD (K := K) (S := [fl, t]) (ds := tailB n (.tuple (ws.map workD))) f8 (eds_cons (ed_lst (eds_cons (ed_var rfl (hI n)) (eds_cons (ed_var rfl (hW s8)) eds_nil))) (eds_cons (ed_tup (eds_cons (ed_var rfl (hI n)) eds_nil)) (eds_cons (ed_tup (eds_cons (ed_var rfl (hI n)) (eds_cons (ed_var rfl (hW s8)) (eds_cons (ed_tup eds_nil) eds_nil)))) (eds_cons (ed_tup (eds_cons (ed_var rfl (hW s8)) (eds_cons (ed_var rfl (hI n)) eds_nil))) (eds_cons ed_dict0 (eds_cons (ed_var rfl (hI n)) (eds_cons (ed_var rfl (hW s8)) (eds_cons ed_bl eds_nil)))))))) (fun y3 zs2 H9 s9 hy3 dz2 => ?_) (show 8 ≤ 1000 by decide)⟩
      have hz2 : zs2.length = 8 := denAll_length dz2
      refine ⟨y2, y3, _, _, rfl, rfl, (s9.trans (Same.new hy3)) _ _ e8, upd_same, by rw [sizeLine_eq]; omega, fun y4 hy4 => ?_⟩
      have s10' := s9.trans ((Same.new (o := .lst zs2) hy3).trans (Same.new (o := .lst (xs ++ zs ++ zs2)) hy4))
      have s10 := s8.trans s10'
      have d10 : DenAll K (Vw [fl, t] (upd (upd H9 y3 (.lst zs2)) y4 (.lst (xs ++ zs ++ zs2)))) (ds ++ tailA n (.tuple (ws.map workD)) (ws.map workD) ++ tailB n (.tuple (ws.map workD))) (xs ++ zs ++ zs2) := denAll_append ((Vw.same s10').denAll _ _ d8) ((Vw.same ((Same.new hy3).trans (Same.new hy4))).denAll _ _ dz2)
      have e10 : upd (upd H9 y3 (.lst zs2)) y4 (.lst (xs ++ zs ++ zs2)) y4 = some (.lst (xs ++ zs ++ zs2)) := upd_same
      have l10 : (xs ++ zs ++ zs2).length = 27 := by rw [List.length_append]; omega
      generalize upd (upd H9 y3 (.lst zs2)) y4 (.lst (xs ++ zs ++ zs2)) = H10 at s10' s10 d10 e10 ⊢
      have f10 := f6.same s10
      refine ⟨_, rfl, lst_goD (K := K) (S := [fl, t]) (ds := tailC n far (.tuple (ws.map workD))) f10 (eds_cons (ed_tup (eds_cons (ed_var rfl (hI n)) (eds_cons ed_non eds_nil))) (eds_cons (ed_tup (eds_cons (ed_var rfl (hI n)) (eds_cons ed_str eds_nil))) (eds_cons (ed_tup (eds_cons (ed_op0 (g := fun i j => i - j) ed_neg (ed_var rfl (hI far))) (eds_cons (ed_var rfl (hW s10)) eds_nil))) (eds_cons (ed_tup (eds_cons (ed_op0 (g := fun i j => i + j) ed_int (ed_var rfl (hI far))) (eds_cons (ed_var rfl (hW s10)) eds_nil))) eds_nil)))) (fun y5 zs3 H11 s11 hy5 dz3 => ?_) (show 4 ≤ 1000 by decide)⟩
      have hz3 : zs3.length = 4 := denAll_length dz3
      refine ⟨y4, y5, _, _, rfl, rfl, (s11.trans (Same.new hy5)) _ _ e10, upd_same, by rw [sizeLine_eq]; omega, fun y6 hy6 => ?_⟩
      have s12' := s11.trans ((Same.new (o := .lst zs3) hy5).trans (Same.new (o := .lst (xs ++ zs ++ zs2 ++ zs3)) hy6))
      have d12 := Vw.sub.denAll _ _ (denAll_append ((Vw.same s12').denAll _ _ d10) ((Vw.same ((Same.new (o := .lst zs3) hy5).trans (Same.new (o := .lst (xs ++ zs ++ zs2 ++ zs3)) hy6))).denAll _ _ dz3))
      refine k y6 _ _ _ (b06.trans (But.of (s10.trans s12'))) upd_same d12 (fun d hd' => ?_) ?_
      · have tn := tails_no (ws := ws) hf0 hn1
        rcases List.mem_append.mp hd' with hd' | hd'
        · rcases List.mem_append.mp hd' with hd' | hd'
          · rcases List.mem_append.mp hd' with hd' | hd'
            · exact hno d hd'
            · exact tn d (List.mem_append_left _ hd')
          · exact tn d (List.mem_append_right _ (List.mem_append_left _ hd'))
        · exact tn d (List.mem_append_right _ (List.mem_append_right _ hd'))
      · rw [List.length_append, List.length_append, List.length_append, hl13]
        show 13 + 6 + 8 + 4 ≤ 100
        decide
end
end Ab
set_option Elab.async false
set_option linter.all false
set_option maxRecDepth 100000
namespace Ab
open PySem L2
theorem fold_list : ∀ (l : List (Array Nat)) (acc : Array Nat), (l.foldl (· ++ ·) acc).toList = acc.toList ++ (l.map (·.toList)).flatten
  | [], acc => by simp
  | x :: l, acc => by
    rw [List.foldl_cons, fold_list l]
    simp
theorem mul_list (x : Str) {n : Nat} (h : 2 ≤ n) (hx : x.length ≠ 0) : (Txt.mul x n).cps.toList = (List.replicate n x.cps.toList).flatten := by
  unfold Txt.mul
  rw [if_neg (by omega), if_neg (by
    have h1 : ((n : Int) == 1) = false := beq_eq_false_iff_ne.mpr (by omega)
    have h2 : (x.length == 0) = false := beq_eq_false_iff_ne.mpr hx
    rw [h1, h2]; decide)]
  show (List.foldl (· ++ ·) (#[] : Array Nat) (List.replicate ((n : Int)).toNat x.cps)).toList = _
  rw [fold_list]
  simp
theorem mul_mem {x : Str} {n : Nat} (h : 2 ≤ n) (hx : x.length ≠ 0) {c : Nat} (hc : c ∈ (Txt.mul x n).cps.toList) : c ∈ x.cps.toList := by
  rw [mul_list x h hx] at hc
  obtain ⟨l, hl, hc⟩ := List.mem_flatten.mp hc
  rw [List.eq_of_mem_replicate hl] at hc
  exact hc
theorem mul_len {x : Str} {n : Nat} (h : 2 ≤ n) (hx : x.length ≠ 0) : (Txt.mul x n).length = n * x.length := by
  rw [← len_list, mul_list x h hx, List.length_flatten, List.map_replicate, List.sum_replicate_nat, len_list]
theorem ok_often {a x : Str} {n : Nat} (h : 2 ≤ n) (hx : x.length = 1) (hn : n ≤ 5000) (ha : (a.cps.all (· < 128) && (decide (a.length ≤ 100) && decide (a.cps.toList.count 32 ≤ 17))) = true) (h2 : x.cps.all (· < 128) = true) (h3 : 32 ∉ x.cps.toList) : Ok51 (a ++ Txt.mul x n) := by
  rw [Bool.and_eq_true, Bool.and_eq_true] at ha
  have hx0 : x.length ≠ 0 := by omega
  have l1 := of_decide_eq_true ha.2.1
  have l2 := of_decide_eq_true ha.2.2
  refine ok_few (Asc.app ha.1 (asc_of fun c hc => (show Asc x from h2).lt (mul_mem h hx0 hc))) ?_ ?_
  · rw [app_len, mul_len h hx0, hx]; omega
  · rw [app_list, List.count_append, List.count_eq_zero.mpr fun z => h3 (mul_mem h hx0 z)]
    omega
theorem ok_lit {a : Str} (ha : (a.cps.all (· < 128) && (decide (a.length ≤ 10000) && decide (a.cps.toList.count 32 ≤ 17))) = true) : Ok51 a := by
  rw [Bool.and_eq_true, Bool.and_eq_true] at ha
  exact ok_few ha.1 (of_decide_eq_true ha.2.1) (of_decide_eq_true ha.2.2)
theorem ok_twelve : Ok51 (("hands 2" : Str) ++ Txt.mul "; 0 1" 12) := by
  refine ok_win (show Asc _ by unfold Asc; decide +kernel) (by decide +kernel) (Win.mono (k := 6) ?_ (by decide))
  have e : (("hands 2" : Str) ++ Txt.mul "; 0 1" 12).cps.toList = jn [59, 32] (("hands 2" : Str).cps.toList :: List.replicate 12 [48, 32, 49]) := by decide +kernel
  rw [e]
  refine win_rows _ _ (by decide +kernel) fun r hr => ?_
  rw [List.eq_of_mem_replicate hr]
  decide
theorem ok_long : Ok51 (("hands " : Str) ++ Txt.mul "1" 4000) ∧ Ok51 (("hands 2; " : Str) ++ Txt.mul "1" 4000) ∧ Ok51 (("hands 2; 0 " : Str) ++ Txt.mul "0" 4000) :=
  ⟨ok_often (n := 4000) (by decide) (by decide +kernel) (by decide) (by decide +kernel) (by decide +kernel) (by decide +kernel), ok_often (n := 4000) (by decide) (by decide +kernel) (by decide) (by decide +kernel) (by decide +kernel) (by decide +kernel), ok_often (n := 4000) (by decide) (by decide +kernel) (by decide) (by decide +kernel) (by decide +kernel) (by decide +kernel)⟩
end Ab
set_option Elab.async false
set_option linter.all false
set_option maxRecDepth 100000
namespace Ab
open PySem L2
theorem tAnd_any {tA tB : TT} {σ : St} {H : Hp} {Q : Bool → Hp → Prop} (hA : ∀ R : Bool → Hp → Prop, (∀ b, R b H) → tA σ H R) (hB : ∀ R : Bool → Hp → Prop, (∀ b, R b H) → tB σ H R) (h : ∀ b, Q b H) : tAnd tA tB σ H Q := by
  refine hA _ fun b => ?_
  cases b with
  | false => exact iteF (h false)
  | true => exact iteT (hB _ h)
theorem canLay_work (l : List Int) : (workD l).canLay0 = true := canLay_tints l
theorem canLay_book (n : Int) (ws : List (List Int)) : (bookD n ws).canLay0 = true := by
  have h : (PyData.tuple (ws.map workD)).canLay0 = true := by unfold PyData.canLay0; exact canLay_map _ canLay_work ws
  unfold bookD
  rw [PyData.canLay0, PyData.canLayAll0, PyData.canLayAll0, canLay_int, h, PyData.canLayAll0]
  rfl
theorem depth_work (l : List Int) : (workD l).depth ≤ 1 := depth_tints l
theorem depth_book (n : Int) (ws : List (List Int)) : (bookD n ws).depth ≤ 3 := by
  have h : (PyData.tuple (ws.map workD)).depth ≤ 2 := by unfold PyData.depth; exact Nat.succ_le_succ (depth_map _ depth_work ws)
  have h2 := depth_int n
  unfold bookD
  rw [PyData.depth, PyData.depthAll, PyData.depthAll, PyData.depthAll]
  omega
theorem noDicts_map {α : Type} (f : α → PyData) (h : ∀ x, noDict (f x) = true) : ∀ l : List α, noDicts (l.map f) = true
  | [] => by unfold List.map noDicts; rfl
  | x :: r => by rw [List.map_cons]; unfold noDicts; rw [h x, noDicts_map f h r]; rfl
theorem noDict_book (n : Int) (ws : List (List Int)) : noDict (bookD n ws) = true := by
  unfold bookD noDict noDicts
  rw [show noDict (.int n) = true by unfold noDict; rfl]
  unfold noDicts noDict
  rw [noDicts_map workD (fun l => noDict_tints l) ws]
  unfold noDicts
  rfl
theorem eqvAll_self {α : Type} (f : α → PyData) (h : ∀ x, PyData.eqv (f x) (f x) = true) : ∀ l : List α, PyData.eqvAll (l.map f) (l.map f) = true
  | [] => by simp [PyData.eqvAll]
  | x :: r => by rw [List.map_cons, PyData.eqvAll, h x, eqvAll_self f h r]; rfl
theorem eqv_int (i : Int) : PyData.eqv (.int i) (.int i) = true := by simp [PyData.eqv]
theorem eqv_work (l : List Int) : PyData.eqv (workD l) (workD l) = true := by
  unfold workD
  rw [PyData.eqv]
  exact eqvAll_self _ eqv_int l
theorem eqv_book (n : Int) (ws : List (List Int)) : PyData.eqv (bookD n ws) (bookD n ws) = true := by
  unfold bookD
  rw [PyData.eqv, PyData.eqvAll, eqv_int, PyData.eqvAll, PyData.eqv, eqvAll_self _ eqv_work ws, PyData.eqvAll]
  rfl
theorem due_fine (t : Str) : noDict (dueD t) = true ∧ SeqAt.shaped (dueD t) = true ∧ PyData.eqv (dueD t) (dueD t) = true := by
  unfold dueD
  split
  · split
    · refine ⟨?_, ?_, ?_⟩
      · unfold noDict noDicts noDicts noDicts
        rw [noDict_book]
        rfl
      · refine shaped_of ?_ ?_
        · rw [PyData.canLay0, PyData.canLayAll0, PyData.canLayAll0, canLay_book, PyData.canLayAll0]
          simp [PyData.canLay0]
          decide +kernel
        · have h := depth_book (handsOf t) (worksOf t)
          rw [PyData.depth, PyData.depthAll, PyData.depthAll, PyData.depthAll, show (PyData.str "told").depth = 0 by simp [PyData.depth]]
          omega
      · rw [PyData.eqv, PyData.eqvAll, PyData.eqvAll, eqv_book, PyData.eqvAll]
        simp [PyData.eqv]
    · exact ⟨by decide +kernel, by decide +kernel, by decide +kernel⟩
  · exact ⟨by decide +kernel, by decide +kernel, by decide +kernel⟩
end Ab
set_option Elab.async false
set_option linter.all false
set_option maxRecDepth 100000
namespace Ab
open PySem L2
structure St1 (X : Cx) (e : Expr) (u : Str) : Prop where
  go : PE X e (tC (.str u))
def tSts (us : List Str) : TA := fun _ H Q => Q (us.map V.str) H
structure Sts (X : Cx) (es : List Expr) (us : List Str) : Prop where
  go : PA X es (tSts us)
def tNewS (us : List Str) : TE := fun _ H Q => ∀ p, H p = none → Q (.ref p) (upd H p (.lst (us.map V.str)))
section
variable {X : Cx} {pos : Pos} {e a b : Expr} {es : List Expr} {u v : Str} {us : List Str}
theorem st_str {x j} : St1 X (.Constant (.str x) j pos) x := ⟨pe_str⟩
theorem st_add (ha : St1 X a u) (hb : St1 X b v) (hz : u.length + v.length ≤ 60000) : St1 X (.BinOp a .Add b pos) (u ++ v) := ⟨(pe_op op_add_str ha.go hb.go).imp fun σ H Q h => ⟨u, v, rfl, rfl, by rw [sizeLine_eq]; omega, h⟩⟩
theorem st_mul {x : Str} {n : Nat} {j k : Nat} {p1 p2 : Pos} (h1 : x.length ≤ 5) (h2 : n ≤ 5000) : St1 X (.BinOp (.Constant (.str x) j p1) .Mult (.Constant (.int n) k p2) pos) (Txt.mul x n) := ⟨(pe_op op_repS pe_str pe_int).imp fun σ H Q h => ⟨x, n, rfl, rfl, ⟨by
    rw [decide_eq_false (show ¬ (n : Int) < -(2 ^ 63) by omega), decide_eq_false (show ¬ (n : Int) ≥ 2 ^ 63 by omega)]; rfl, fun h0 _ => by
      have : (1000000 : Int) ≤ (2 ^ 63 - 1) / n := by
        rw [Int.le_ediv_iff_mul_le (by omega)]
        omega
      omega, fun h0 _ => by
      have : x.length * ((n : Int)).toNat ≤ 5 * 5000 := Nat.mul_le_mul h1 (by omega)
      have h9 := sizeLine_eq
      exact decide_eq_false (by omega)⟩, h⟩⟩
theorem sts_nil : Sts X [] [] := ⟨pa_nil⟩
theorem sts_cons (h : St1 X e u) (r : Sts X es us) (hs : starEach (e :: es) X.env = (false, eval e X.env) :: starEach es X.env) : Sts X (e :: es) (u :: us) := ⟨pa_cons h.go r.go hs⟩
theorem sts_lst (h : Sts X es us) (hz : us.length ≤ 1000) : PEo X (.List es pos) (tNewS us) := ⟨(pe_lst h.go).imp fun σ H Q h => ⟨by rw [List.length_map, sizeLine_eq]; omega, h⟩⟩
end
structure LawX (X : Cx) : Prop where
  nd : X.N.Nodup
  n6 : X.N[6]? = some ("rows" : Str)
  l6 : X.env.scope.names.lookup ("rows" : Str) = some .local
  n7 : X.N[7]? = some ("bads" : Str)
  l7 : X.env.scope.names.lookup ("bads" : Str) = some .local
def lSt (i : Nat) : Stmt := (defBody sLaw).getD i (.Pass ⟨0, 0, 0, 0⟩)
section
variable {X : Cx}
def rw2 : List Str := [("" : Str), ("hands" : Str), ("hands " : Str), ("hands 0" : Str), ("hands 7" : Str), ("hands 6" : Str), ("hands 999999" : Str), ("hands 1000000" : Str), ("hands 03" : Str)]
theorem rowS2 (h : LawX X) : PSo X (lSt 2) (tAsg (tNewS rw2) (gName 6)) := pso_set h.nd h.n6 (.inl h.l6) (sts_lst (sts_cons st_str (sts_cons st_str (sts_cons st_str (sts_cons st_str (sts_cons st_str (sts_cons st_str (sts_cons st_str (sts_cons st_str (sts_cons st_str sts_nil se_const) se_const) se_const) se_const) se_const) se_const) se_const) se_const) se_const) (by show 9 ≤ 1000; decide)) rfl (.inr h.l6)
def rw3 : List Str := [("hands  3" : Str), ("hands 2; 1 0" : Str), ("hands 2; 0 0" : Str), ("hands 2; 2" : Str), ("hand 2" : Str), ("hands 2;0" : Str)]
theorem rowS3 (h : LawX X) : PSo X (lSt 3) (tAsg (tOp rCat (tVar 6) (tNewS rw3)) (gName 6)) := pso_set h.nd h.n6 (.inl h.l6) (peo_op op_cat (peo_v (pv 6 h.n6 (.inl h.l6))) (sts_lst (sts_cons st_str (sts_cons st_str (sts_cons st_str (sts_cons st_str (sts_cons st_str (sts_cons st_str sts_nil se_const) se_const) se_const) se_const) se_const) se_const) (by show 6 ≤ 1000; decide))) rfl (.inr h.l6)
def rw5 : List Str := [("hands 2; " : Str), ("hands 2; 0; " : Str), ("hands 2; 0  1" : Str), ("hands 2; -1" : Str), ("hands 2; 0-1" : Str), ("hands 2 0" : Str)]
theorem rowS5 (h : LawX X) : PSo X (lSt 5) (tAsg (tOp rCat (tVar 6) (tNewS rw5)) (gName 6)) := pso_set h.nd h.n6 (.inl h.l6) (peo_op op_cat (peo_v (pv 6 h.n6 (.inl h.l6))) (sts_lst (sts_cons st_str (sts_cons st_str (sts_cons st_str (sts_cons st_str (sts_cons st_str (sts_cons st_str sts_nil se_const) se_const) se_const) se_const) se_const) se_const) (by show 6 ≤ 1000; decide))) rfl (.inr h.l6)
def rw6 : List Str := [("hands 2; 5; x" : Str), ("hands 2; 5 x" : Str), ("hands 3; 0 0; 1 00" : Str), ("hands 0; 0; x" : Str), ("hands 7; 7; 0-" : Str)]
theorem rowS6 (h : LawX X) : PSo X (lSt 6) (tAsg (tOp rCat (tVar 6) (tNewS rw6)) (gName 6)) := pso_set h.nd h.n6 (.inl h.l6) (peo_op op_cat (peo_v (pv 6 h.n6 (.inl h.l6))) (sts_lst (sts_cons st_str (sts_cons st_str (sts_cons st_str (sts_cons st_str (sts_cons st_str sts_nil se_const) se_const) se_const) se_const) se_const) (by show 5 ≤ 1000; decide))) rfl (.inr h.l6)
def rw7 : List Str := [("hands 2; 0 0 0; " : Str), ("hands 2; 9; 0  1" : Str), ("hands 8; 1 0; 01" : Str)]
theorem rowS7 (h : LawX X) : PSo X (lSt 7) (tAsg (tOp rCat (tVar 6) (tNewS rw7)) (gName 6)) := pso_set h.nd h.n6 (.inl h.l6) (peo_op op_cat (peo_v (pv 6 h.n6 (.inl h.l6))) (sts_lst (sts_cons st_str (sts_cons st_str (sts_cons st_str sts_nil se_const) se_const) se_const) (by show 3 ≤ 1000; decide))) rfl (.inr h.l6)
def rw8 : List Str := [(("hands " : Str) ++ Txt.mul "1" 4000), (("hands 2; " : Str) ++ Txt.mul "1" 4000), (("hands 2; 0 " : Str) ++ Txt.mul "0" 4000)]
theorem rowS8 (h : LawX X) : PSo X (lSt 8) (tAsg (tOp rCat (tVar 6) (tNewS rw8)) (gName 6)) := pso_set h.nd h.n6 (.inl h.l6) (peo_op op_cat (peo_v (pv 6 h.n6 (.inl h.l6))) (sts_lst (sts_cons (st_add st_str (st_mul (n := 4000) (by decide +kernel) (by decide)) (by have e : (Txt.mul ("1" : Str) 4000).length = _ := mul_len (x := "1") (n := 4000) (by decide) (by decide +kernel); rw [e]; decide +kernel)) (sts_cons (st_add st_str (st_mul (n := 4000) (by decide +kernel) (by decide)) (by have e : (Txt.mul ("1" : Str) 4000).length = _ := mul_len (x := "1") (n := 4000) (by decide) (by decide +kernel); rw [e]; decide +kernel)) (sts_cons (st_add st_str (st_mul (n := 4000) (by decide +kernel) (by decide)) (by have e : (Txt.mul ("0" : Str) 4000).length = _ := mul_len (x := "0") (n := 4000) (by decide) (by decide +kernel); rw [e]; decide +kernel)) sts_nil se_bin) se_bin) se_bin) (by show 3 ≤ 1000; decide))) rfl (.inr h.l6)
def rw9 : List Str := [("hands 7; x" : Str), ("hands 2; 1 0; 00" : Str), ("hands 0; 0" : Str), (("hands 2" : Str) ++ Txt.mul "; 0 1" 12)]
theorem rowS9 (h : LawX X) : PSo X (lSt 9) (tAsg (tOp rCat (tVar 6) (tNewS rw9)) (gName 6)) := pso_set h.nd h.n6 (.inl h.l6) (peo_op op_cat (peo_v (pv 6 h.n6 (.inl h.l6))) (sts_lst (sts_cons st_str (sts_cons st_str (sts_cons st_str (sts_cons (st_add st_str (st_mul (n := 12) (by decide +kernel) (by decide)) (by decide +kernel)) sts_nil se_bin) se_const) se_const) se_const) (by show 4 ≤ 1000; decide))) rfl (.inr h.l6)
def rw10 : List Str := [(("hands 2" : Str) ++ Txt.mul "; 1" 13), ("hands 2; 1 0; 0" : Str), ("hands 3; 0; 3; 0 1" : Str), ("hands 3; 2 2; 0 1 2" : Str)]
theorem rowS10 (h : LawX X) : PSo X (lSt 10) (tAsg (tOp rCat (tVar 6) (tNewS rw10)) (gName 6)) := pso_set h.nd h.n6 (.inl h.l6) (peo_op op_cat (peo_v (pv 6 h.n6 (.inl h.l6))) (sts_lst (sts_cons (st_add st_str (st_mul (n := 13) (by decide +kernel) (by decide)) (by decide +kernel)) (sts_cons st_str (sts_cons st_str (sts_cons st_str sts_nil se_const) se_const) se_const) se_bin) (by show 4 ≤ 1000; decide))) rfl (.inr h.l6)
def rw11 : List Str := [((("hands 2" : Str) ++ Txt.mul "; 0" 13) ++ ("; " : Str))]
def lFor : Expr := match lSt 11 with
  | .For _ e _ _ _ => e
  | _ => .Constant .none 0 ⟨0, 0, 0, 0⟩
theorem rowF (h : LawX X) : PEo X lFor (tOp rCat (tVar 6) (tNewS rw11)) := (peo_op op_cat (peo_v (pv 6 h.n6 (.inl h.l6))) (sts_lst (sts_cons (st_add (st_add st_str (st_mul (n := 13) (by decide +kernel) (by decide)) (by decide +kernel)) st_str (by decide +kernel)) sts_nil se_bin) (by decide)))
def bdA : List PyData := [.none, .tuple [], .tuple [.int 0, .tuple []], .tuple [.int 7, .tuple []], .tuple [.int 2, .tuple [.tuple [.int 1, .int 0]]], .tuple [.int 2, .tuple [.tuple [.int 2]]], .tuple [.int 2, .tuple [.tuple []]], .list [.int 2, .tuple []], .str "hands 1"]
def tAnyL (K : PySem.W.Frag) (ds : List PyData) : TE := fun σ H Q => ∃ Z, tLs K Z (fun _ => True) ds σ H Q
theorem anyL {K : PySem.W.Frag} {es : List Expr} {ds : List PyData} {pos : Pos} (h : ∀ Z, DA X K Z (fun _ => True) es ds) (hz : ds.length ≤ 1000) : PEo X (.List es pos) (tAnyL K ds) := by
  constructor
  intro pins s σ H Q I ⟨Z, q⟩
  exact (lso_lst (h Z) hz).go pins s σ H Q I q
theorem badS {K : PySem.W.Frag} (h : LawX X) : PSo X (lSt 12) (tAsg (tAnyL K bdA) (gName 7)) := pso_set h.nd h.n7 (.inl h.l7) (anyL (fun Z => (da_cons dt_non (da_cons (dt_tup da_nil) (da_cons (dt_tup (da_cons dt_int (da_cons (dt_tup da_nil) da_nil se_tup) se_const)) (da_cons (dt_tup (da_cons dt_int (da_cons (dt_tup da_nil) da_nil se_tup) se_const)) (da_cons (dt_tup (da_cons dt_int (da_cons (dt_tup (da_cons (dt_tup (da_cons dt_int (da_cons dt_int da_nil se_const) se_const)) da_nil se_tup)) da_nil se_tup) se_const)) (da_cons (dt_tup (da_cons dt_int (da_cons (dt_tup (da_cons (dt_tup (da_cons dt_int da_nil se_const)) da_nil se_tup)) da_nil se_tup) se_const)) (da_cons (dt_tup (da_cons dt_int (da_cons (dt_tup (da_cons (dt_tup da_nil) da_nil se_tup)) da_nil se_tup) se_const)) (da_cons (dt_lst (da_cons dt_int (da_cons (dt_tup da_nil) da_nil se_tup) se_const)) (da_cons dt_str da_nil se_const) se_lst) se_tup) se_tup) se_tup) se_tup) se_tup) se_tup) se_const)) (by decide)) rfl (.inr h.l7)
def bdB : List PyData := [.tuple [.int 2, .tuple (List.replicate 13 [.tuple [.int 0]]).flatten]]
def lBad : Expr := match lSt 13 with
  | .Assign _ (.BinOp e _ _ _) _ => e
  | _ => .Constant .none 0 ⟨0, 0, 0, 0⟩
theorem badE {K : PySem.W.Frag} (hK : X.K = K) (h : LawX X) : PEo X lBad (tOp rCat (tVar 7) (tAnyL K bdB)) := peo_op op_cat (peo_v (pv 7 h.n7 (.inl h.l7))) (anyL (fun Z => (da_cons (dt_tup (da_cons dt_int (da_cons (dt_rep (n := 13) hK (dt_tup (da_cons (dt_tup (da_cons dt_int da_nil se_const)) da_nil se_tup))) da_nil se_bin) se_const)) da_nil se_tup)) (by decide))
theorem bdA_no : ∀ d ∈ bdA, isBook d = false := by decide +kernel
theorem bdB_no : ∀ d ∈ bdB, isBook d = false := by decide +kernel
end
end Ab
set_option Elab.async false
set_option linter.all false
set_option maxRecDepth 100000
namespace Ab
open PySem L2
theorem ok_all {us : List Str} (h : us.all (fun u => u.cps.all (· < 128) && (decide (u.length ≤ 10000) && decide (u.cps.toList.count 32 ≤ 17))) = true) : ∀ u ∈ us, Ok51 u := fun u hu => ok_lit (List.all_eq_true.mp h u hu)
theorem rw8_ok : ∀ u ∈ rw8, Ok51 u := fun u hu => by
  rcases List.mem_cons.mp hu with h | hu
  · rw [h]; exact ok_long.1
  rcases List.mem_cons.mp hu with h | hu
  · rw [h]; exact ok_long.2.1
  rcases List.mem_cons.mp hu with h | hu
  · rw [h]; exact ok_long.2.2
  · cases hu
theorem rw9_ok : ∀ u ∈ rw9, Ok51 u := fun u hu => by
  rcases List.mem_cons.mp hu with h | hu
  · rw [h]; exact ok_lit (by decide +kernel)
  rcases List.mem_cons.mp hu with h | hu
  · rw [h]; exact ok_lit (by decide +kernel)
  rcases List.mem_cons.mp hu with h | hu
  · rw [h]; exact ok_lit (by decide +kernel)
  rcases List.mem_cons.mp hu with h | hu
  · rw [h]; exact ok_twelve
  · cases hu
theorem rows_ok : ∀ u ∈ rw2 ++ rw3 ++ [("hands 2; 0 " : Str)] ++ rw5 ++ rw6 ++ rw7 ++ rw8 ++ rw9 ++ rw10 ++ rw11, Ok51 u := by
  intro u hu
  rcases List.mem_append.mp hu with hu | hu
  rcases List.mem_append.mp hu with hu | hu
  rcases List.mem_append.mp hu with hu | hu
  rcases List.mem_append.mp hu with hu | hu
  rcases List.mem_append.mp hu with hu | hu
  rcases List.mem_append.mp hu with hu | hu
  rcases List.mem_append.mp hu with hu | hu
  rcases List.mem_append.mp hu with hu | hu
  rcases List.mem_append.mp hu with hu | hu
  · exact ok_all (us := rw2) (by decide +kernel) u hu
  · exact ok_all (us := rw3) (by decide +kernel) u hu
  · exact ok_all (us := [("hands 2; 0 " : Str)]) (by decide +kernel) u hu
  · exact ok_all (us := rw5) (by decide +kernel) u hu
  · exact ok_all (us := rw6) (by decide +kernel) u hu
  · exact ok_all (us := rw7) (by decide +kernel) u hu
  · exact rw8_ok u hu
  · exact rw9_ok u hu
  · exact ok_all (us := rw10) (by decide +kernel) u hu
  · exact ok_all (us := rw11) (by decide +kernel) u hu
theorem same_wrT {H H' : Hp} {a : Addr} {u : HO} (e : Same H H') (h : H a = none) : Same H (upd H' a u) := fun b o q => by
  rw [upd_ne (fun z => by rw [z, h] at q; cases q)]
  exact e b o q
theorem row_go {H0 H : Hp} {us vs : List Str} {s0 s1 v2 v3 v4 v5 v7 : Option V} {u : TS} {D : Ends} {p : Addr} (s : Same H0 H) (hp : H p = some (.lst (us.map V.str))) (hz : us.length + vs.length ≤ 1000) (k : ∀ q H', Same H0 H' → H0 q = none → H' q = some (.lst ((us ++ vs).map V.str)) → u D [s0, s1, v2, v3, v4, v5, some (.ref q), v7] H') :
    tSeq (tAsg (tOp rCat (tVar 6) (tNewS vs)) (gName 6)) u D [s0, s1, v2, v3, v4, v5, some (.ref p), v7] H := by
  refine set_go ⟨_, rfl, fun p1 h1 => ⟨p, p1, _, _, rfl, rfl, (Same.new h1) _ _ hp, upd_same, by rw [List.length_map, List.length_map, sizeLine_eq]; omega, fun q hq => ?_⟩⟩
  exact k q _ (s.trans ((Same.new h1).trans (Same.new hq))) ((s.trans (Same.new h1)).free hq) (by rw [List.map_append]; exact upd_same)
section
variable {P : Program} {w : World} {K : PySem.W.Frag} {mg : Str → Option Value} {base : Heap}
def spLaw (K : PySem.W.Frag) : Sp := fun vs H Q _ => ∃ (a : Addr) (ns : List Int), vs = [.ref a] ∧ SqL K H a (ns.map V.int) ∧ ∀ H', Q (.bl true) H'
theorem scLaw : FnScope ["script", "jar", "k", "bent", "text", "turn", "rows", "bads"] ["script"] (defScope sLaw) := ⟨rfl, rfl, rfl, by decide +kernel, rfl, by decide +kernel, by decide +kernel⟩
set_option maxHeartbeats 20000000 in
theorem ok_law {f fB fT fE fN fO fD fH fA : Addr} {fd dB dT dE dN dO dD dH dA : FuncData} (G : Fn K mg "law" sLaw ["script"] f fd) (B : Bl mg) (GEb : Fn K mg "_law_e_book" sEBook ["jar", "most"] fB dB) (OEb : FnOk P w K mg base CX0 4 fB dB ["jar", "most"] (spEBook K))
    (GTx : Fn K mg "_law_e_text" sText ["book"] fT dT) (OTx : FnOk P w K mg base CX0 1 fT dT ["book"] (spText K)) (GEa : Fn K mg "_law_e_each_change" sEach ["text"] fE dE) (OEa : FnOk P w K mg base CX0 1 fE dE ["text"] spEach) (GBe : Fn K mg "_law_e_bent" sBentE ["jar", "text"] fN dN) (OBe : FnOk P w K mg base CX0 3 fN dN ["jar", "text"] (spBentE K))
    (GTo : Fn K mg "_law_e_told" sTold ["text"] fO dO) (OTo : FnOk P w K mg base CX0 5 fO dO ["text"] (spTold K)) (GDu : Fn K mg "_law_e_due" sDue ["text"] fD dD) (ODu : FnOk P w K mg base CX0 2 fD dD ["text"] (spDue K)) (GSh : Fn K mg "_law_e_shown" sShown ["thing"] fH dH) (OSh : FnOk P w K mg base CX0 6 fH dH ["thing"] (spShown K))
    (GNB : Fn K mg "_law_e_no_books" sNoBooks ["jar"] fA dA) (ONo : FnOk P w K mg base CX0 5 fA dA ["jar"] (spNoBooks K)) : FnOk P w K mg base CX0 7 f fd ["script"] (spLaw K) := by
  refine G.fn.ok scLaw (fun vs H Q E h => ?_) (fun cdv A outer s H vs Q E hr h => ?_)
  · obtain ⟨a, ns, rfl, _⟩ := h
    rfl
  · obtain ⟨a, ns, rfl, hns, k⟩ := h
    have r1 : Room 1 _ := hr.mono (by decide)
    have r2 : Room 2 _ := hr.mono (by decide)
    have r3 : Room 3 _ := hr.mono (by decide)
    have r4 : Room 4 _ := hr.mono (by decide)
    have r5 : Room 5 _ := hr.mono (by decide)
    have r6 : Room 6 _ := hr
    refine PSso.ex (psso_cons ⟨(ps_set (i := 1) scLaw.nd rfl (Or.inl rfl) (pe_lst (pa_cons (pv 0) (pa_cons pe_int (pa_cons pe_int pa_nil)))))⟩
      (psso_cons ⟨(ps_for PassesOwn.never rfl (pi_range1 rfl B.range (pa_cons pe_int pa_nil)) (pg_name (i := 2) scLaw.nd rfl (Or.inl rfl)) (PSso.go (psso_cons ⟨(ps_if (PW.pt (pw_and (pt_cmpR op_gt (pv 2) pe_int (nomark _)) (pw_and1 (pt_cmpR op_ge (pe_ix ix_list (pv 1) pe_int (fun _ _ => rfl)) (pe_callB call_len_seq rfl B.len b_len (pa_cons (pv 0) pa_nil)) (nomark _)))))
      (pss_one ps_break)
      pss_nil)⟩ (psso_cons ⟨(ps_for PassesOwn.never rfl (pi_list (pe_op op_rep (pe_fn GEa OEa r1 rfl (pa_cons (pe_fn GTx OTx r1 rfl (pa_cons (pe_fn GEb OEb r4 rfl (pa_cons (pv 1) (pa_cons pe_int pa_nil))) pa_nil)) pa_nil)) (pe_callTy call_int1 rfl B.int b_int (pa_cons (pe_cmpR op_eq (pv 2) pe_int (nomark _)) pa_nil)))) (pg_name (i := 3) scLaw.nd rfl (Or.inl rfl)) (PSso.go (psso_one ⟨(ps_if (pt_cmpR (op_neDK (K := K) rfl hr.u64) (pe_fn GTo OTo r5 rfl (pa_cons (pv 3) pa_nil)) (pe_fn GDu ODu r2 rfl (pa_cons (pv 3) pa_nil)) (nomark _))
      (pss_one (ps_ret pe_bl))
      pss_nil)⟩)))⟩ (psso_cons ⟨(ps_set (i := 4) scLaw.nd rfl (Or.inl rfl) (pe_fn GTx OTx r1 rfl (pa_cons (pe_fn GEb OEb r4 rfl (pa_cons (pv 1) (pa_cons pe_int pa_nil))) pa_nil)))⟩ (psso_one ⟨(ps_for PassesOwn.never rfl (pi_range1 rfl B.range (pa_cons pe_int pa_nil)) (pg_name (i := 5) scLaw.nd rfl (Or.inl rfl)) (PSso.go (psso_cons ⟨(ps_set (i := 3) scLaw.nd rfl (Or.inl rfl) (pe_fn GBe OBe r3 rfl (pa_cons (pv 1) (pa_cons (pv 4) pa_nil))))⟩ (psso_one ⟨(ps_if (pt_cmpR (op_neDK (K := K) rfl hr.u64) (pe_fn GTo OTo r5 rfl (pa_cons (pv 3) pa_nil)) (pe_fn GDu ODu r2 rfl (pa_cons (pv 3) pa_nil)) (nomark _))
      (pss_one (ps_ret pe_bl))
      pss_nil)⟩))))⟩))))))⟩
      (psso_cons (rowS2 ⟨scLaw.nd, rfl, rfl, rfl, rfl⟩)
      (psso_cons (rowS3 ⟨scLaw.nd, rfl, rfl, rfl, rfl⟩)
      (psso_cons ⟨(ps_expr (pe_bm PySem.F.plainAttrs_list PySem.F.slot_list_append PySem.F.type_list_append mt_append (pv 6) (pa_cons pe_str pa_nil)))⟩
      (psso_cons (rowS5 ⟨scLaw.nd, rfl, rfl, rfl, rfl⟩)
      (psso_cons (rowS6 ⟨scLaw.nd, rfl, rfl, rfl, rfl⟩)
      (psso_cons (rowS7 ⟨scLaw.nd, rfl, rfl, rfl, rfl⟩)
      (psso_cons (rowS8 ⟨scLaw.nd, rfl, rfl, rfl, rfl⟩)
      (psso_cons (rowS9 ⟨scLaw.nd, rfl, rfl, rfl, rfl⟩)
      (psso_cons (rowS10 ⟨scLaw.nd, rfl, rfl, rfl, rfl⟩)
      (psso_cons (pso_forList PassesOwn.never rfl (rowF ⟨scLaw.nd, rfl, rfl, rfl, rfl⟩) (pg_name (i := 4) scLaw.nd rfl (Or.inl rfl)) (psso_one ⟨(ps_if (pt_cmpR (op_neDK (K := K) rfl hr.u64) (pe_fn GTo OTo r5 rfl (pa_cons (pv 4) pa_nil)) (pe_fn GDu ODu r2 rfl (pa_cons (pv 4) pa_nil)) (nomark _))
      (pss_one (ps_ret pe_bl))
      pss_nil)⟩) (fun _ => rfl))
      (psso_cons (badS (K := K) ⟨scLaw.nd, rfl, rfl, rfl, rfl⟩)
      (psso_cons (pso_set (i := 7) scLaw.nd rfl (Or.inl rfl) (peo_op op_cat (badE (K := K) rfl ⟨scLaw.nd, rfl, rfl, rfl, rfl⟩) ⟨pe_fn GNB ONo r5 rfl (pa_cons (pv 1) pa_nil)⟩))
      (psso_one ⟨(ps_ret (pe_callB (call_all rfl) rfl B.all b_all (pa_cons (pe_comp (own := ["bad"]) (fr := []) (frn := []) (compOk_of (defScope sLaw) ["script", "jar", "k", "bent", "text", "turn", "rows", "bads"] rfl rfl (by decide +kernel)) rfl (pi_list (pv 7))
        (fun _ _ _ _ => (pg_name (i := 0) (show (["bad"] : List Str).Nodup by decide +kernel) rfl (Or.inl rfl))) (fun _ _ _ _ => pf_nil)
        (fun _ _ _ _ => (pe_fn GSh OSh r6 rfl (pa_cons (pv 0) pa_nil)))) pa_nil)))⟩))))))))))))))) ?_
    refine set_go ⟨_, rfl, size1 (show 3 ≤ 1000 by decide), fun t ht => ?_⟩
    have hJ : Jar K (upd H t (.lst [.ref a, .int 0, .int 0])) t a ns 0 := ⟨⟨0, 0, by decide, by decide, upd_same⟩, (Same.new ht).seqL hns⟩
    generalize upd H t (.lst [.ref a, .int 0, .int 0]) = H1 at hJ ⊢
    refine seq_cut2 (fun σ H' => (∃ v2 v3 v4 v5, σ = [some (.ref a), some (.ref t), v2, v3, v4, v5, none, none]) ∧ ∃ N, N ≤ 500000 ∧ Jar K H' t a ns N) (fun N hN => ?_) (fun σ' H' hI => ?_)
    · refine ⟨2, rfl, by decide, by decide, for_range (lo := 0) (n := 2) (fun i σ H2 => (∃ v2 v3 v4 v5, σ = [some (.ref a), some (.ref t), v2, v3, v4, v5, none, none]) ∧ Jar K H2 t a ns (300 * i)) ⟨⟨none, none, none, none, rfl⟩, hJ⟩ ?_ ?_⟩
      · rintro i σ H2 hi ⟨⟨v2, v3, v4, v5, rfl⟩, J2⟩
        obtain ⟨⟨pp2, q2, hp2, hN2, ht2⟩, hns2⟩ := id J2
        refine tAnd_any (fun R hR => ⟨_, rfl, _, _, rfl, rfl, _, rfl, hR _⟩) (fun R hR => ⟨_, rfl, t, _, 1, .int pp2, rfl, rfl, SqL.of ht2, rfl, _, rfl, a, _, rfl, .inl hns2, _, _, rfl, rfl, _, rfl, hR _⟩) (fun b => ?_)
        refine ite2 (fun _ => ?_) (fun _ => ?_)
        · exact hN _ _ ⟨⟨_, _, _, _, rfl⟩, _, by omega, J2⟩
        refine ⟨_, rfl, t, a, ns, 300 * i, 2, rfl, by decide, by decide, J2, by omega, fun n ws bp H3 hb b3 J3 hbk => ?_⟩
        refine ⟨_, n, ws, rfl, hbk, hb, fun H4 s4 => ?_⟩
        refine ⟨_, rfl, book_txt hb, fun pe us H5 s5 hpe hul hus => ?_⟩
        refine ⟨_, rfl, rfl, .inr ⟨_, rfl, ?_⟩⟩
        obtain ⟨kk, hkk, hk01⟩ : ∃ kk : Int, (if decide (V.int (0 + (i : Int)) = V.int 0) = true then (1 : Int) else 0) = kk ∧ (kk = 0 ∨ kk = 1) := ⟨_, rfl, by split <;> simp⟩
        have hus2 : ∀ u ∈ (List.replicate kk.toNat us).flatten, Ok51 u := fun u hu => by
          obtain ⟨l, hl, hu⟩ := List.mem_flatten.mp hu
          rw [List.eq_of_mem_replicate hl] at hu
          exact hus u hu
        have emap : (List.replicate kk.toNat (us.map V.str)).flatten = ((List.replicate kk.toNat us).flatten).map V.str := by
          rw [List.map_flatten, List.map_replicate]
        refine ⟨pe, kk, us.map V.str, rfl, by rw [← hkk], hpe, by omega, by omega, ?_, fun pl hpl => ?_⟩
        · rw [List.length_map, sizeLine_eq]
          have : us.length * kk.toNat ≤ 5000 * 1 := Nat.mul_le_mul hul (by omega)
          omega
        rw [emap]
        generalize (List.replicate kk.toNat us).flatten = us2 at hus2 emap ⊢
        have s6 := Same.new (o := .lst (us2.map V.str)) hpl
        have e6 : upd H5 pl (.lst (us2.map V.str)) pl = some (.lst (us2.map V.str)) := upd_same
        have J6 := J3.same (s4.trans (s5.trans s6))
        generalize upd H5 pl (.lst (us2.map V.str)) = H6 at s6 e6 J6 ⊢
        refine ⟨pl, rfl, ⟨_, SqL.of e6⟩, for_list (K := K) (a := pl) (xs := us2.map V.str) (fun _ σ H7 => (∃ v3, σ = [some (.ref a), some (.ref t), some (.int (0 + (i : Int))), v3, v4, v5, none, none]) ∧ Same H6 H7) ⟨⟨_, rfl⟩, Same.refl _⟩ (fun _ σ H7 _ ⟨_, s7⟩ => s7.seqL (SqL.of e6)) ?_ ?_⟩
        · rintro j x σ H7 hx ⟨⟨v3, rfl⟩, s7⟩
          obtain ⟨u, hu, rfl⟩ := List.mem_map.mp (List.mem_of_getElem? hx)
          obtain ⟨o1, o2, o3, o4⟩ := hus2 u hu
          obtain ⟨f1, f2, f3⟩ := due_fine u
          refine ⟨_, rfl, u, rfl, o1, o2, o3, fun p1 H8 s8 d8 => ⟨_, rfl, u, rfl, o1, o2, o3, o4, fun p2 H9 s9 d9 => ⟨dueD u, dueD u, s9.den _ _ d8, d9, f1, f1, f2, f2, _, rfl, ?_⟩⟩⟩
          rw [f3]
          refine iteF ?_
          exact ⟨⟨_, rfl⟩, s7.trans (s8.trans s9)⟩
        rintro σ H7 ⟨⟨v3, rfl⟩, s7⟩
        refine ⟨_, rfl, t, a, ns, _, 12, rfl, by decide, by decide, J6.same s7, by omega, fun n2 ws2 bp2 H8 hb2 b8 J8 hbk2 => ⟨_, n2, ws2, rfl, hbk2, hb2, fun H9 s9 => ?_⟩⟩
        refine ⟨8, rfl, by decide, by decide, for_range (lo := 0) (n := 8) (fun j σ H10 => (∃ v3 v5, σ = [some (.ref a), some (.ref t), some (.int (0 + (i : Int))), v3, some (.str (bookT n2 ws2)), v5, none, none]) ∧ Jar K H10 t a ns (300 * i + 200 + 3 * j)) ⟨⟨_, _, rfl⟩, (J8.same s9).more (by omega)⟩ ?_ ?_⟩
        · rintro j σ H10 hj ⟨⟨v3, v5, rfl⟩, J10⟩
          refine ⟨_, rfl, _, rfl, t, a, ns, _, n2, ws2, rfl, J10, by omega, hb2, fun u H11 ⟨o1, o2, o3, o4⟩ b11 J11 => ?_⟩
          obtain ⟨f1, f2, f3⟩ := due_fine u
          refine ⟨_, rfl, u, rfl, o1, o2, o3, fun p1 H12 s12 d12 => ⟨_, rfl, u, rfl, o1, o2, o3, o4, fun p2 H13 s13 d13 => ⟨dueD u, dueD u, s13.den _ _ d12, d13, f1, f1, f2, f2, _, rfl, ?_⟩⟩⟩
          rw [f3]
          refine iteF ?_
          exact ⟨⟨_, _, rfl⟩, (J11.same (s12.trans s13)).more (by omega)⟩
        · rintro σ H10 ⟨⟨v3, v5, rfl⟩, J10⟩
          exact ⟨⟨_, _, _, _, rfl⟩, J10.more (by omega)⟩
      · rintro σ H2 ⟨⟨v2, v3, v4, v5, rfl⟩, J2⟩
        exact hN _ _ ⟨⟨_, _, _, _, rfl⟩, _, by decide, J2⟩
    · obtain ⟨⟨v2, v3, v4, v5, rfl⟩, N, hN, J1⟩ := hI
      refine set_go fun p1 h1 => ?_
      refine row_go (Same.new h1) upd_same (by decide) fun p2 H2 s2 n2 h2 => ?_
      refine ⟨_, rfl, .inl ⟨rfl, _, SqL.of h2⟩, p2, _, _, rfl, rfl, h2, size1 (by rw [List.length_map]; decide), ?_⟩
      have s3 := same_wrT (u := .lst ((rw2 ++ rw3).map V.str ++ [.str "hands 2; 0 "])) s2 n2
      have h3 : upd H2 p2 (.lst ((rw2 ++ rw3).map V.str ++ [.str "hands 2; 0 "])) p2 = some (.lst ((rw2 ++ rw3 ++ [("hands 2; 0 " : Str)]).map V.str)) := by rw [List.map_append]; exact upd_same
      generalize upd H2 p2 (.lst ((rw2 ++ rw3).map V.str ++ [.str "hands 2; 0 "])) = H3 at s3 h3 ⊢
      refine row_go s3 h3 (by decide) fun p4 H4 s4 n4 h4 => ?_
      refine row_go s4 h4 (by decide) fun p5 H5 s5 n5 h5 => ?_
      refine row_go s5 h5 (by decide) fun p6 H6 s6 n6 h6 => ?_
      refine row_go s6 h6 (by decide) fun p7 H7 s7 n7 h7 => ?_
      refine row_go s7 h7 (by decide) fun p8 H8 s8 n8 h8 => ?_
      refine row_go s8 h8 (by decide) fun p9 H9 s9 n9 h9 => ?_
      refine seq_cut2 (fun σ H' => (∃ v4 v6, σ = [some (.ref a), some (.ref t), v2, v3, v4, v5, v6, none]) ∧ Jar K H' t a ns N) (fun M hM => ?_) (fun σ' H' hI => ?_)
      · refine ⟨_, rfl, fun p10 h10 => ⟨p9, p10, _, _, rfl, rfl, (Same.new h10) _ _ h9, upd_same, size1 (by rw [List.length_map, List.length_map]; decide), fun p11 h11 => ?_⟩⟩
        have s11 := s9.trans ((Same.new (o := .lst (rw11.map V.str)) h10).trans (Same.new (o := .lst ((rw2 ++ rw3 ++ [("hands 2; 0 " : Str)] ++ rw5 ++ rw6 ++ rw7 ++ rw8 ++ rw9 ++ rw10).map V.str ++ rw11.map V.str)) h11))
        have e11 : upd (upd H9 p10 (.lst (rw11.map V.str))) p11 (.lst ((rw2 ++ rw3 ++ [("hands 2; 0 " : Str)] ++ rw5 ++ rw6 ++ rw7 ++ rw8 ++ rw9 ++ rw10).map V.str ++ rw11.map V.str)) p11 = some (.lst ((rw2 ++ rw3 ++ [("hands 2; 0 " : Str)] ++ rw5 ++ rw6 ++ rw7 ++ rw8 ++ rw9 ++ rw10 ++ rw11).map V.str)) := by rw [List.map_append (l₂ := rw11)]; exact upd_same
        generalize upd (upd H9 p10 (.lst (rw11.map V.str))) p11 (.lst ((rw2 ++ rw3 ++ [("hands 2; 0 " : Str)] ++ rw5 ++ rw6 ++ rw7 ++ rw8 ++ rw9 ++ rw10).map V.str ++ rw11.map V.str)) = H11 at s11 e11 ⊢
        have hok := rows_ok
        generalize rw2 ++ rw3 ++ [("hands 2; 0 " : Str)] ++ rw5 ++ rw6 ++ rw7 ++ rw8 ++ rw9 ++ rw10 ++ rw11 = us at e11 hok
        refine ⟨p11, rfl, ⟨_, SqL.of e11⟩, for_list (K := K) (a := p11) (xs := us.map V.str) (fun _ σ H12 => (∃ v4, σ = [some (.ref a), some (.ref t), v2, v3, v4, v5, some (.ref p9), none]) ∧ Same H11 H12) ⟨⟨_, rfl⟩, Same.refl _⟩ (fun _ σ H12 _ ⟨_, s12⟩ => s12.seqL (SqL.of e11)) ?_ ?_⟩
        · rintro j x σ H12 hx ⟨⟨v4, rfl⟩, s12⟩
          obtain ⟨u, hu, rfl⟩ := List.mem_map.mp (List.mem_of_getElem? hx)
          obtain ⟨o1, o2, o3, o4⟩ := hok u hu
          obtain ⟨f1, f2, f3⟩ := due_fine u
          refine ⟨_, rfl, u, rfl, o1, o2, o3, fun p1 H13 s13 d13 => ⟨_, rfl, u, rfl, o1, o2, o3, o4, fun p2 H14 s14 d14 => ⟨dueD u, dueD u, s14.den _ _ d13, d14, f1, f1, f2, f2, _, rfl, ?_⟩⟩⟩
          rw [f3]
          refine iteF ?_
          exact ⟨⟨_, rfl⟩, s12.trans (s13.trans s14)⟩
        · rintro σ H12 ⟨⟨v4, rfl⟩, s12⟩
          exact hM _ _ ⟨⟨_, _, rfl⟩, J1.same (s11.trans s12)⟩
      · obtain ⟨⟨v4, v6, rfl⟩, J2⟩ := hI
        obtain ⟨⟨pj, qj, _, _, htj⟩, _⟩ := id J2
        have fxj : ∀ {H'' : Hp}, Same H' H'' → Fx [t] H'' := fun s b hb => by rw [List.mem_singleton.mp hb]; exact ⟨_, s _ _ htj⟩
        refine set_go ⟨[t], trivial, fxj (Same.refl _), fun p12 xs H12 s12 n12 h12 d12 => ?_⟩
        have l12 : xs.length = 9 := denAll_length d12
        refine set_go ⟨_, rfl, [t], trivial, fxj s12, fun p13 ys H13 s13 n13 h13 d13 => ?_⟩
        have l13 : ys.length = 1 := denAll_length d13
        refine ⟨p12, p13, _, _, rfl, rfl, s13 _ _ h12, h13, size1 (by omega), fun p14 h14 => ?_⟩
        have s14 := Same.new (o := .lst (xs ++ ys)) h14
        have e14 : upd H13 p14 (.lst (xs ++ ys)) p14 = some (.lst (xs ++ ys)) := upd_same
        have d14 : DenAll K (Vw [t] (upd H13 p14 (.lst (xs ++ ys)))) (bdA ++ bdB) (xs ++ ys) := denAll_append ((Vw.same (s13.trans s14)).denAll _ _ d12) ((Vw.same s14).denAll _ _ d13)
        have J14 := J2.same (s12.trans (s13.trans s14))
        generalize upd H13 p14 (.lst (xs ++ ys)) = H14 at s14 e14 d14 J14 ⊢
        have n14 : p14 ≠ t := fun z => by
          have h := (s12.trans s13) _ _ htj
          rw [z, h] at h14; cases h14
        refine ⟨_, rfl, t, a, ns, N, rfl, J14, by omega, fun q zs ds H15 b15 hq dz hno hlen => ?_⟩
        have lz := denAll_length dz
        refine ⟨p14, q, _, _, rfl, rfl, b15 _ _ n14 e14, hq, size1 (by rw [List.length_append]; omega), fun p16 h16 => ?_⟩
        have s16 := Same.new (o := .lst (xs ++ ys ++ zs)) h16
        have d15 := Vw.sub.denAll _ _ ((But.vw b15 (List.mem_singleton.mpr rfl)).denAll _ _ d14)
        have d16 : DenAll K (upd H15 p16 (.lst (xs ++ ys ++ zs))) (bdA ++ bdB ++ ds) (xs ++ ys ++ zs) := s16.denAll _ _ (denAll_append d15 dz)
        have e16 : upd H15 p16 (.lst (xs ++ ys ++ zs)) p16 = some (.lst (xs ++ ys ++ zs)) := upd_same
        have hall : ∀ d ∈ bdA ++ bdB ++ ds, isBook d = false := fun d hd => by
          rcases List.mem_append.mp hd with hd | hd
          · rcases List.mem_append.mp hd with hd | hd
            · exact bdA_no d hd
            · exact bdB_no d hd
          · exact hno d hd
        have lx : (xs ++ ys ++ zs).length ≤ 1000 := by rw [List.length_append, List.length_append]; omega
        generalize upd H15 p16 (.lst (xs ++ ys ++ zs)) = H16 at e16 d16 ⊢
        generalize xs ++ ys ++ zs = as at e16 d16 lx
        generalize bdA ++ bdB ++ ds = es at d16 hall
        refine ⟨_, rfl, p16, rfl, ⟨_, SqL.of e16⟩, comp_fnL (K := K) (a := p16) (xs := as) (vs := (List.replicate as.length true).map V.bl) (fun σ => ∃ v, σ = [v]) lx (by simp) (SqL.of e16) ⟨none, rfl⟩ ?_ ?_⟩
        · rintro i x v σ H17 hx hv ⟨v0, rfl⟩ s17 Q' k'
          obtain ⟨d, hd1, hd2⟩ := denAll_at (s17.denAll _ _ d16) hx
          have ev : v = .bl true := by
            rw [List.getElem?_map] at hv
            obtain ⟨b, hb, rfl⟩ := Option.map_eq_some_iff.mp hv
            rw [List.eq_of_mem_replicate (List.mem_of_getElem? hb)]
          subst ev
          exact ⟨_, rfl, x, d, rfl, hd2, hall d (List.mem_of_getElem? hd1), fun H18 s18 => k' _ _ ⟨_, rfl⟩ s18⟩
        · intro H17 s17 p18 h18
          refine ⟨p18, List.replicate as.length true, rfl, SqL.of upd_same, ?_⟩
          rw [show (List.replicate as.length true).all id = true by simp]
          exact k _
end
end Ab
set_option Elab.async false
set_option linter.all false
set_option maxRecDepth 100000
namespace Ab
open PySem L2 PyProof.Rows
theorem fn_mk {K : PySem.W.Frag} {h : Heap} {mg : Str → Option Value} (X : K.In h) (G : h.Ns mainGlobals mg) {x : Str} {st : Stmt} {ps : List Str} {f : Addr} {oc : Value} {od an : Option Addr} {osl : Array (Option Value)} {kV doc pm cdv ct : Value}
    (hb : ∀ (kV doc pm : Value) (an : Option Addr) (cdv ct : Value) (us : List Value), us.length = ps.length → bindArgs (PySem.W.fnOf x x (defArgs st) (defBody st) (defScope st) .none kV doc pm an cdv ct) ⟨us, []⟩ = pure (ps.zip us))
    (a : PySem.W.nsIn K mainGlobals x = some (some (.ref f))) (l : K.lookup f = some ⟨oc, od, .func (PySem.W.fnOf x x (defArgs st) (defBody st) (defScope st) .none kV doc pm an cdv ct), osl⟩) (c : PySem.W.codeIn K cdv x = true) (k : PySem.W.keepIn K (.ref f) = true) :
    ∃ f fd, Fn K mg x st ps f fd := by
  have F := fun_mk (st := st) l c k
  exact ⟨f, _, F, PySem.W.mg_of X G a, k, F.binds hb⟩
theorem bl_mk {K : PySem.W.Frag} {h : Heap} {mg : Str → Option Value} (X : K.In h) (G : h.Ns mainGlobals mg) {t6 t12 t7 t8 : Tok}
    (z0 : PySem.W.nsIn K mainGlobals "isinstance" = some none)
    (z1 : PySem.W.nsIn K mainGlobals "int" = some none)
    (z2 : PySem.W.nsIn K mainGlobals "bool" = some none)
    (z3 : PySem.W.nsIn K mainGlobals "tuple" = some none)
    (z4 : PySem.W.nsIn K mainGlobals "list" = some none)
    (z5 : PySem.W.nsIn K mainGlobals "len" = some none)
    (z6 : PySem.W.nsIn K mainGlobals "all" = some none)
    (z7 : PySem.W.nsIn K mainGlobals "zip" = some none)
    (z8 : PySem.W.nsIn K mainGlobals "range" = some none)
    (z9 : PySem.W.nsIn K mainGlobals "sorted" = some none)
    (z10 : PySem.W.nsIn K mainGlobals "set" = some none)
    (z11 : PySem.W.nsIn K mainGlobals "sum" = some none)
    (z12 : PySem.W.nsIn K mainGlobals "repr" = some none)
    (z13 : PySem.W.nsIn K mainGlobals "str" = some none)
    (z14 : PySem.W.nsIn K mainGlobals "ValueError" = some none)
    (z15 : PySem.W.nsIn K mainGlobals "any" = some none)
    (zA : PySem.W.nsIn K mainGlobals "MOST_HANDS" = some (some (.int 6 t6))) (zB : PySem.W.nsIn K mainGlobals "MOST_WORKS" = some (some (.int 12 t12))) (zC : PySem.W.nsIn K mainGlobals "FIGURES" = some (some (.str "0123456789" t7))) (zD : PySem.W.nsIn K mainGlobals "MOST_FIGURES" = some (some (.int 6 t8))) : Bl mg :=
  ⟨PySem.W.mg_none_of X G z0, PySem.W.mg_none_of X G z1, PySem.W.mg_none_of X G z2, PySem.W.mg_none_of X G z3, PySem.W.mg_none_of X G z4, PySem.W.mg_none_of X G z5, PySem.W.mg_none_of X G z6, PySem.W.mg_none_of X G z7, PySem.W.mg_none_of X G z8, PySem.W.mg_none_of X G z9, PySem.W.mg_none_of X G z10, PySem.W.mg_none_of X G z11, PySem.W.mg_none_of X G z12, PySem.W.mg_none_of X G z13, PySem.W.mg_none_of X G z14, PySem.W.mg_none_of X G z15, ⟨_, PySem.W.mg_of X G zA⟩, ⟨_, PySem.W.mg_of X G zB⟩, ⟨_, PySem.W.mg_of X G zC⟩, ⟨_, PySem.W.mg_of X G zD⟩⟩
theorem cl_mk {K : PySem.W.Frag} {h : Heap} {mg : Str → Option Value} (X : K.In h) (G : h.Ns mainGlobals mg) {cE a0 a1 a2 a3 a4 a5 a6 a7 a8 a9 a10 : Addr} (zE : PySem.W.nsIn K mainGlobals "DealError" = some (some (.ref cE))) (qE : ecB K cE vbm = true)
    (z0 : PySem.W.nsIn K mainGlobals "NoBook" = some (some (.ref a0))) (q0 : ecB K a0 (.ref cE :: vbm) = true)
    (z1 : PySem.W.nsIn K mainGlobals "NoCosts" = some (some (.ref a1))) (q1 : ecB K a1 (.ref cE :: vbm) = true)
    (z2 : PySem.W.nsIn K mainGlobals "NoDeal" = some (some (.ref a2))) (q2 : ecB K a2 (.ref cE :: vbm) = true)
    (z3 : PySem.W.nsIn K mainGlobals "NoHand" = some (some (.ref a3))) (q3 : ecB K a3 (.ref cE :: vbm) = true)
    (z4 : PySem.W.nsIn K mainGlobals "NoRooms" = some (some (.ref a4))) (q4 : ecB K a4 (.ref cE :: vbm) = true)
    (z5 : PySem.W.nsIn K mainGlobals "NoRow" = some (some (.ref a5))) (q5 : ecB K a5 (.ref cE :: vbm) = true)
    (z6 : PySem.W.nsIn K mainGlobals "NoText" = some (some (.ref a6))) (q6 : ecB K a6 (.ref cE :: vbm) = true)
    (z7 : PySem.W.nsIn K mainGlobals "NoWay" = some (some (.ref a7))) (q7 : ecB K a7 (.ref cE :: vbm) = true)
    (z8 : PySem.W.nsIn K mainGlobals "NoWeights" = some (some (.ref a8))) (q8 : ecB K a8 (.ref cE :: vbm) = true)
    (z9 : PySem.W.nsIn K mainGlobals "NoWork" = some (some (.ref a9))) (q9 : ecB K a9 (.ref cE :: vbm) = true)
    (z10 : PySem.W.nsIn K mainGlobals "TooMany" = some (some (.ref a10))) (q10 : ecB K a10 (.ref cE :: vbm) = true)
    (nd : [cE, a0, a1, a2, a3, a4, a5, a6, a7, a8, a9, a10].Nodup) : ∃ cE c, Cl K mg cE c := by
  have hl : ∀ i, i < 11 → ∃ a, [a0, a1, a2, a3, a4, a5, a6, a7, a8, a9, a10][i]? = some a := fun i hi => ⟨_, List.getElem?_eq_getElem (l := [a0, a1, a2, a3, a4, a5, a6, a7, a8, a9, a10]) (i := i) hi⟩
  have hc : ∀ (i : Nat) (a : Addr), [a0, a1, a2, a3, a4, a5, a6, a7, a8, a9, a10][i]? = some a → (fun i : Nat => ([a0, a1, a2, a3, a4, a5, a6, a7, a8, a9, a10][i]?).getD 0) i = a := fun i a e => by show ([a0, a1, a2, a3, a4, a5, a6, a7, a8, a9, a10][i]?).getD 0 = a; rw [e]; rfl
  have ndA : [a0, a1, a2, a3, a4, a5, a6, a7, a8, a9, a10].Nodup := (List.nodup_cons.mp nd).2
  have neE : cE ∉ [a0, a1, a2, a3, a4, a5, a6, a7, a8, a9, a10] := (List.nodup_cons.mp nd).1
  refine ⟨cE, fun i => ([a0, a1, a2, a3, a4, a5, a6, a7, a8, a9, a10][i]?).getD 0, ⟨fun i n e => ?_, fun i hi => ?_, fun i j hi hj e => ?_, fun i hi e => ?_, PySem.W.mg_of X G zE, ecH_base qE⟩⟩
  · match i, e with
    | 0, e => injection e with e; subst e; exact PySem.W.mg_of X G z0
    | 1, e => injection e with e; subst e; exact PySem.W.mg_of X G z1
    | 2, e => injection e with e; subst e; exact PySem.W.mg_of X G z2
    | 3, e => injection e with e; subst e; exact PySem.W.mg_of X G z3
    | 4, e => injection e with e; subst e; exact PySem.W.mg_of X G z4
    | 5, e => injection e with e; subst e; exact PySem.W.mg_of X G z5
    | 6, e => injection e with e; subst e; exact PySem.W.mg_of X G z6
    | 7, e => injection e with e; subst e; exact PySem.W.mg_of X G z7
    | 8, e => injection e with e; subst e; exact PySem.W.mg_of X G z8
    | 9, e => injection e with e; subst e; exact PySem.W.mg_of X G z9
    | 10, e => injection e with e; subst e; exact PySem.W.mg_of X G z10
    | n + 11, e => exact absurd (List.getElem?_eq_some_iff.mp e).1 (by show ¬ n + 11 < 11; omega)
  · match i, hi with
    | 0, _ => exact ecH_own qE q0
    | 1, _ => exact ecH_own qE q1
    | 2, _ => exact ecH_own qE q2
    | 3, _ => exact ecH_own qE q3
    | 4, _ => exact ecH_own qE q4
    | 5, _ => exact ecH_own qE q5
    | 6, _ => exact ecH_own qE q6
    | 7, _ => exact ecH_own qE q7
    | 8, _ => exact ecH_own qE q8
    | 9, _ => exact ecH_own qE q9
    | 10, _ => exact ecH_own qE q10
    | n + 11, hi => omega
  · obtain ⟨a, ea⟩ := hl i hi
    obtain ⟨b, eb⟩ := hl j hj
    have e' : a = b := (hc i a ea).symm.trans (e.trans (hc j b eb))
    subst e'
    have hi' : i < [a0, a1, a2, a3, a4, a5, a6, a7, a8, a9, a10].length := hi
    exact (List.getElem?_inj hi' ndA).mp (ea.trans eb.symm)
  · obtain ⟨a, ea⟩ := hl i hi
    have e' : a = cE := (hc i a ea).symm.trans e
    subst e'
    exact neE (List.mem_of_getElem? ea)
theorem law_all {l : PySem.W.OpenLaw} {w : World} {K : PySem.W.Frag} {mg : Str → Option Value} {fa : Addr} (hfa : mg "law" = some (.ref fa)) (B : Bl mg) (hCl : ∃ cE c, Cl K mg cE c)
    (hW : ∃ f fd, Fn K mg "is_whole" sWhole ["thing"] f fd)
    (hH : ∃ f fd, Fn K mg "are_hands" sHands ["thing"] f fd)
    (hKw : ∃ f fd, Fn K mg "is_work" sWorkP ["hands", "thing"] f fd)
    (hBP : ∃ f fd, Fn K mg "is_book" sBookP ["thing"] f fd)
    (hNB : ∃ f fd, Fn K mg "need_book" sNeedB ["book"] f fd)
    (hNM : ∃ f fd, Fn K mg "is_number" sNumber ["word"] f fd)
    (hSB : ∃ f fd, Fn K mg "show_book" sShowB ["book"] f fd)
    (hRB : ∃ f fd, Fn K mg "read_book" sReadB ["text"] f fd)
    (hWH : ∃ f fd, Fn K mg "_law_e_whirl" sWhirl ["cell", "at"] f fd)
    (hSC : ∃ f fd, Fn K mg "_law_e_scoop" sScoop ["jar", "many"] f fd)
    (hAB : ∃ f fd, Fn K mg "_law_e_able" sAble ["jar", "hands"] f fd)
    (hEB : ∃ f fd, Fn K mg "_law_e_book" sEBook ["jar", "most"] f fd)
    (hTX : ∃ f fd, Fn K mg "_law_e_text" sText ["book"] f fd)
    (hKI : ∃ f fd, Fn K mg "_law_e_kind" sKind ["caught"] f fd)
    (hNU : ∃ f fd, Fn K mg "_law_e_number" sNum ["word"] f fd)
    (hDU : ∃ f fd, Fn K mg "_law_e_due" sDue ["text"] f fd)
    (hTO : ∃ f fd, Fn K mg "_law_e_told" sTold ["text"] f fd)
    (hSH : ∃ f fd, Fn K mg "_law_e_shown" sShown ["thing"] f fd)
    (hNO : ∃ f fd, Fn K mg "_law_e_no_books" sNoBooks ["jar"] f fd)
    (hEA : ∃ f fd, Fn K mg "_law_e_each_change" sEach ["text"] f fd)
    (hBE : ∃ f fd, Fn K mg "_law_e_bent" sBentE ["jar", "text"] f fd)
    (hLW : ∃ f fd, Fn K mg "law" sLaw ["script"] f fd)
    : ∃ fd : FuncData, (∀ (s : Shared) (v : Value), BindsTo s fd ⟨[v], []⟩ [("script", v)]) ∧ ∀ base : Heap, K.In base → base.Ns mainGlobals mg → FnOk l.prog w K mg base CX0 7 fa fd ["script"] (spLaw K) := by
  obtain ⟨fW, dW, W⟩ := hW
  obtain ⟨fH, dH, H⟩ := hH
  obtain ⟨fKw, dKw, Kw⟩ := hKw
  obtain ⟨fBP, dBP, BP⟩ := hBP
  obtain ⟨fNB, dNB, NB⟩ := hNB
  obtain ⟨fNM, dNM, NM⟩ := hNM
  obtain ⟨fSB, dSB, SB⟩ := hSB
  obtain ⟨fRB, dRB, RB⟩ := hRB
  obtain ⟨fWH, dWH, WH⟩ := hWH
  obtain ⟨fSC, dSC, SC⟩ := hSC
  obtain ⟨fAB, dAB, AB⟩ := hAB
  obtain ⟨fEB, dEB, EB⟩ := hEB
  obtain ⟨fTX, dTX, TX⟩ := hTX
  obtain ⟨fKI, dKI, KI⟩ := hKI
  obtain ⟨fNU, dNU, NU⟩ := hNU
  obtain ⟨fDU, dDU, DU⟩ := hDU
  obtain ⟨fTO, dTO, TO⟩ := hTO
  obtain ⟨fSH, dSH, SH⟩ := hSH
  obtain ⟨fNO, dNO, NO⟩ := hNO
  obtain ⟨fEA, dEA, EA⟩ := hEA
  obtain ⟨fBE, dBE, BE⟩ := hBE
  obtain ⟨fLW, dLW, LW⟩ := hLW
  have e := hfa.symm.trans LW.mgx
  cases e
  have R : Pr K mg fW fH fKw fBP fNB dW dH dKw dBP dNB := ⟨W, H, Kw, BP, NB⟩
  refine ⟨dLW, fun s v => ?_, fun base _ _ => ?_⟩
  · obtain ⟨oc, od, kV, doc, pm, an, cdv, ct, osl, rfl, lk, hcd⟩ := LW.fn.ex
    exact .of_eq rfl
  · obtain ⟨cE, c', Zc⟩ := hCl
    have OS : FnOk l.prog w K mg base CX0 2 fSC dSC ["jar", "many"] (spScoop K) := ok_scoop SC B WH
    have OE : FnOk l.prog w K mg base CX0 4 fEB dEB ["jar", "most"] (spEBook K) := ok_ebook EB B SC OS AB (ok_able AB B SC OS)
    exact ok_law LW B EB OE TX (ok_text TX B) EA (ok_each EA B) BE (ok_bentE BE B SC OS) TO (ok_told TO B R Zc RB NM KI) DU (ok_due DU B NU) SH (ok_shown SH B R Zc SB KI) NO (ok_nobooks NO B SC OS EB OE)
theorem walk {l : PySem.W.OpenLaw} {q : Program} {loose : List Str} {XP : (Str → Option Value) → Heap → Prop} {YP : World → Heap → Prop} {d : DefRec} {K : Params → PySem.W.Frag} (hn : l.most = some 63) (hdf : d.params.defaults = []) (hq : importsNone q = true)
    (hY : ∀ (w : World) (h : Heap), YP w h → (K w.params).In h)
    (F : ∀ (w : World) (mg : Str → Option Value) (fa : Addr) (h : Heap), (K w.params).In h → h.Ns mainGlobals mg → mg d.name = some (.ref fa) →
      ∃ fd : FuncData, (∀ (s : Shared) (u : Value), BindsTo s fd ⟨[u], []⟩ [("script", u)]) ∧ ∀ base : Heap, (K w.params).In base → base.Ns mainGlobals mg → FnOk l.prog w (K w.params) mg base CX0 7 fa fd ["script"] (spLaw (K w.params))) :
    PySem.W.WalkO q loose XP YP l.row.toRowW d [] (fun f vs => PySem.call f vs) :=
  L2.walk_of (n := 63) (k := 7) (x := "script") (CX := fun _ => CX0) (sp := fun w => spLaw (K w.params)) hn (by decide) hdf ⟨rfl, by decide, by decide, rfl⟩ hq hY F (fun _ _ a ns _ _ hS => ⟨a, ns, rfl, hS, fun _ => rfl⟩) fun _ _ _ _ _ z => z
end Ab
open PySem PySem.W PyProof.Rows
set_option maxRecDepth 100000 in
set_option maxHeartbeats 0 in
theorem PySem.Challenge.cw_ablehands_k51_texts_that_write_no_book_holds : PySem.Challenge.rw_ablehands_k51_texts_that_write_no_book.Holds := by
  w_on; o_law; k_head; (case hw => w_witness2)
  k_fill
  refine Ab.walk (l := PySem.Challenge.rw_ablehands_k51_texts_that_write_no_book) rfl rfl (by decide +kernel) (fun w h Y => PySem.W.kIn_of Y) ?F
  case F =>
    intro w mg fa h KX G hmg
    refine' Ab.law_all hmg ?B ?Cl ?hW ?hH ?hKw ?hBP ?hNB ?hNM ?hSB ?hRB ?hWH ?hSC ?hAB ?hEB ?hTX ?hKI ?hNU ?hDU ?hTO ?hSH ?hNO ?hEA ?hBE ?hLW
    case B =>
      refine' Ab.bl_mk KX G ?z0 ?z1 ?z2 ?z3 ?z4 ?z5 ?z6 ?z7 ?z8 ?z9 ?z10 ?z11 ?z12 ?z13 ?z14 ?z15 ?zA ?zB ?zC ?zD
      (case z0 => k_is)
      (case z1 => k_is)
      (case z2 => k_is)
      (case z3 => k_is)
      (case z4 => k_is)
      (case z5 => k_is)
      (case z6 => k_is)
      (case z7 => k_is)
      (case z8 => k_is)
      (case z9 => k_is)
      (case z10 => k_is)
      (case z11 => k_is)
      (case z12 => k_is)
      (case z13 => k_is)
      (case z14 => k_is)
      (case z15 => k_is)
      (case zA => k_is)
      (case zB => k_is)
      (case zC => k_is)
      (case zD => k_is)
    case Cl =>
      refine' Ab.cl_mk KX G ?zE ?qE ?z0 ?q0 ?z1 ?q1 ?z2 ?q2 ?z3 ?q3 ?z4 ?q4 ?z5 ?q5 ?z6 ?q6 ?z7 ?q7 ?z8 ?q8 ?z9 ?q9 ?z10 ?q10 ?nd
      (case zE => k_is); (case qE => kernel_rfl)
      (case z0 => k_is); (case q0 => kernel_rfl)
      (case z1 => k_is); (case q1 => kernel_rfl)
      (case z2 => k_is); (case q2 => kernel_rfl)
      (case z3 => k_is); (case q3 => kernel_rfl)
      (case z4 => k_is); (case q4 => kernel_rfl)
      (case z5 => k_is); (case q5 => kernel_rfl)
      (case z6 => k_is); (case q6 => kernel_rfl)
      (case z7 => k_is); (case q7 => kernel_rfl)
      (case z8 => k_is); (case q8 => kernel_rfl)
      (case z9 => k_is); (case q9 => kernel_rfl)
      (case z10 => k_is); (case q10 => kernel_rfl)
      (case nd => decide)
    case hW =>
      refine' Ab.fn_mk KX G (fun _ _ _ _ _ _ us hl => match us, hl with | [_], _ => rfl) ?a ?l ?c ?k
      (case a => k_is); (case l => k_is); (case c => k_is); (case k => k_is)
    case hH =>
      refine' Ab.fn_mk KX G (fun _ _ _ _ _ _ us hl => match us, hl with | [_], _ => rfl) ?a ?l ?c ?k
      (case a => k_is); (case l => k_is); (case c => k_is); (case k => k_is)
    case hKw =>
      refine' Ab.fn_mk KX G (fun _ _ _ _ _ _ us hl => match us, hl with | [_, _], _ => rfl) ?a ?l ?c ?k
      (case a => k_is); (case l => k_is); (case c => k_is); (case k => k_is)
    case hBP =>
      refine' Ab.fn_mk KX G (fun _ _ _ _ _ _ us hl => match us, hl with | [_], _ => rfl) ?a ?l ?c ?k
      (case a => k_is); (case l => k_is); (case c => k_is); (case k => k_is)
    case hNB =>
      refine' Ab.fn_mk KX G (fun _ _ _ _ _ _ us hl => match us, hl with | [_], _ => rfl) ?a ?l ?c ?k
      (case a => k_is); (case l => k_is); (case c => k_is); (case k => k_is)
    case hNM =>
      refine' Ab.fn_mk KX G (fun _ _ _ _ _ _ us hl => match us, hl with | [_], _ => rfl) ?a ?l ?c ?k
      (case a => k_is); (case l => k_is); (case c => k_is); (case k => k_is)
    case hSB =>
      refine' Ab.fn_mk KX G (fun _ _ _ _ _ _ us hl => match us, hl with | [_], _ => rfl) ?a ?l ?c ?k
      (case a => k_is); (case l => k_is); (case c => k_is); (case k => k_is)
    case hRB =>
      refine' Ab.fn_mk KX G (fun _ _ _ _ _ _ us hl => match us, hl with | [_], _ => rfl) ?a ?l ?c ?k
      (case a => k_is); (case l => k_is); (case c => k_is); (case k => k_is)
    case hWH =>
      refine' Ab.fn_mk KX G (fun _ _ _ _ _ _ us hl => match us, hl with | [_, _], _ => rfl) ?a ?l ?c ?k
      (case a => k_is); (case l => k_is); (case c => k_is); (case k => k_is)
    case hSC =>
      refine' Ab.fn_mk KX G (fun _ _ _ _ _ _ us hl => match us, hl with | [_, _], _ => rfl) ?a ?l ?c ?k
      (case a => k_is); (case l => k_is); (case c => k_is); (case k => k_is)
    case hAB =>
      refine' Ab.fn_mk KX G (fun _ _ _ _ _ _ us hl => match us, hl with | [_, _], _ => rfl) ?a ?l ?c ?k
      (case a => k_is); (case l => k_is); (case c => k_is); (case k => k_is)
    case hEB =>
      refine' Ab.fn_mk KX G (fun _ _ _ _ _ _ us hl => match us, hl with | [_, _], _ => rfl) ?a ?l ?c ?k
      (case a => k_is); (case l => k_is); (case c => k_is); (case k => k_is)
    case hTX =>
      refine' Ab.fn_mk KX G (fun _ _ _ _ _ _ us hl => match us, hl with | [_], _ => rfl) ?a ?l ?c ?k
      (case a => k_is); (case l => k_is); (case c => k_is); (case k => k_is)
    case hKI =>
      refine' Ab.fn_mk KX G (fun _ _ _ _ _ _ us hl => match us, hl with | [_], _ => rfl) ?a ?l ?c ?k
      (case a => k_is); (case l => k_is); (case c => k_is); (case k => k_is)
    case hNU =>
      refine' Ab.fn_mk KX G (fun _ _ _ _ _ _ us hl => match us, hl with | [_], _ => rfl) ?a ?l ?c ?k
      (case a => k_is); (case l => k_is); (case c => k_is); (case k => k_is)
    case hDU =>
      refine' Ab.fn_mk KX G (fun _ _ _ _ _ _ us hl => match us, hl with | [_], _ => rfl) ?a ?l ?c ?k
      (case a => k_is); (case l => k_is); (case c => k_is); (case k => k_is)
    case hTO =>
      refine' Ab.fn_mk KX G (fun _ _ _ _ _ _ us hl => match us, hl with | [_], _ => rfl) ?a ?l ?c ?k
      (case a => k_is); (case l => k_is); (case c => k_is); (case k => k_is)
    case hSH =>
      refine' Ab.fn_mk KX G (fun _ _ _ _ _ _ us hl => match us, hl with | [_], _ => rfl) ?a ?l ?c ?k
      (case a => k_is); (case l => k_is); (case c => k_is); (case k => k_is)
    case hNO =>
      refine' Ab.fn_mk KX G (fun _ _ _ _ _ _ us hl => match us, hl with | [_], _ => rfl) ?a ?l ?c ?k
      (case a => k_is); (case l => k_is); (case c => k_is); (case k => k_is)
    case hEA =>
      refine' Ab.fn_mk KX G (fun _ _ _ _ _ _ us hl => match us, hl with | [_], _ => rfl) ?a ?l ?c ?k
      (case a => k_is); (case l => k_is); (case c => k_is); (case k => k_is)
    case hBE =>
      refine' Ab.fn_mk KX G (fun _ _ _ _ _ _ us hl => match us, hl with | [_, _], _ => rfl) ?a ?l ?c ?k
      (case a => k_is); (case l => k_is); (case c => k_is); (case k => k_is)
    case hLW =>
      refine' Ab.fn_mk KX G (fun _ _ _ _ _ _ us hl => match us, hl with | [_], _ => rfl) ?a ?l ?c ?k
      (case a => k_is); (case l => k_is); (case c => k_is); (case k => k_is)

