import PyProof.Rows.All
import Wide.All
import OpenK.AllK
import Wide.FinOn
import PyProof.EqAt
import PyProof.EqKinds
import PyProof.TupleCall
import PyProof.P3Eq
import PyProof.ListNew
import PyProof.Rows.TupDisplay
import PyProof.DictCompW
import PyProof.WalksMore
import PyProof.MinMaxWalk
import PyProof.DictDisplay
import PyProof.DictWalks
import Lean
import PySem.Challenge.RW_ablehands_k27_bars_looked_at
def PySem.W.Fast.tw5707928115654171357 : Nat := 0
def PySem.W.Fast.tw9131508445729539752 : Nat := 0
def PySem.W.Fast.tw17866822490553375533 : Nat := 0
def PySem.W.Fast.tw12895606998552149891 : Nat := 0
def PySem.W.Fast.tw1426742171550482972 : Nat := 0
def PySem.W.Fast.tw2136645756111955925 : Nat := 0
def PySem.W.Fast.tw6311412409471126782 : Nat := 0
def PySem.W.Fast.tw8836804666680184079 : Nat := 0
def PySem.W.Fast.tw17645200053095827560 : Nat := 0
def PySem.W.Fast.tw3380965776670984532 : Nat := 0
def PySem.W.Fast.tw2407782040946599779 : Nat := 0
def PySem.W.Fast.tw11304832630611498248 : Nat := 0
def PySem.W.Fast.tw16553991434833185950 : Nat := 0
def PySem.W.Fast.tw1306922360423279033 : Nat := 0
def PySem.W.Fast.tw13155113892672904024 : Nat := 0
def PySem.W.Fast.tw16327647907668201977 : Nat := 0
def PySem.W.Fast.tw13054526733088401114 : Nat := 0
def PySem.W.Fast.tw979167833716385024 : Nat := 0
def PySem.W.Fast.tw17273578411459746535 : Nat := 0
def PySem.W.Fast.tw6754255086583876680 : Nat := 0
def PySem.W.Fast.tw10151414422858510822 : Nat := 0
def PySem.W.Fast.tw18369232044172031418 : Nat := 0
def PySem.W.Fast.tw12165484443766033645 : Nat := 0
def PySem.W.Fast.tw9309219556333424401 : Nat := 0
def PySem.W.Fast.tw16897937654442253202 : Nat := 0
def PySem.W.Fast.tw10149406440860696341 : Nat := 0
def PySem.W.Fast.tw16129932208461419966 : Nat := 0
def PySem.W.Fast.tw2769369967851428907 : Nat := 0
def PySem.W.Fast.tw11228512674778997346 : Nat := 0
def PySem.W.Fast.tw14220380981655843356 : Nat := 0
def PySem.W.Fast.tw15027890025024193487 : Nat := 0
def PySem.W.Fast.tw15682322750732859295 : Nat := 0
def PySem.W.Fast.tw699509831461598927 : Nat := 0
def PySem.W.Fast.tw9232268692813689621 : Nat := 0
def PySem.W.Fast.tw7853976605209436920 : Nat := 0
def PySem.W.Fast.tw9443916020864171336 : Nat := 0
def PySem.W.Fast.tw6562336324440358353 : Nat := 0
def PySem.W.Fast.tw939104103494365915 : Nat := 0
def PySem.W.Fast.tw12828823925095268926 : Nat := 0
def PySem.W.Fast.tw17557248728555312844 : Nat := 0
def PySem.W.Fast.tw1667563875452522193 : Nat := 0
def PySem.W.Fast.tw5171798571988545215 : Nat := 0
def PySem.W.Fast.tw413793563785195428 : Nat := 0
def PySem.W.Fast.tw17306537700311156896 : Nat := 0
def PySem.W.Fast.tw6076761707596995352 : Nat := 0
def PySem.W.Fast.tw10428389733935645644 : Nat := 0
def PySem.W.Fast.tw11785570062357501208 : Nat := 0
def PySem.W.Fast.tw18438898154209215874 : Nat := 0
def PySem.W.Fast.tw14669886730365275080 : Nat := 0
def PySem.W.Fast.tw9510846442780176636 : Nat := 0
def PySem.W.Fast.tw14194173758121213540 : Nat := 0
def PySem.W.Fast.tw3138573603919110362 : Nat := 0
def PySem.W.Fast.tw9753744522302630117 : Nat := 0
def PySem.W.Fast.tw12199757025471801813 : Nat := 0
def PySem.W.Fast.tw8826205453214097016 : Nat := 0
def PySem.W.Fast.tw16947842445667698662 : Nat := 0
def PySem.W.Fast.tw1827963115056437183 : Nat := 0
def PySem.W.Fast.tw3487162721084856544 : Nat := 0
def PySem.W.Fast.tw6661163896322075185 : Nat := 0
def PySem.W.Fast.tw7403359764778617626 : Nat := 0
def PySem.W.Fast.tw1003530937548170366 : Nat := 0
def PySem.W.Fast.tw6991212279534797291 : Nat := 0
def PySem.W.Fast.tw10511430177885926749 : Nat := 0
def PySem.W.Fast.tw12191842161961985611 : Nat := 0
def PySem.W.Fast.tw11315019273751652490 : Nat := 0
def PySem.W.Fast.tw14198440269585552032 : Nat := 0
def PySem.W.Fast.tw5930822737534099403 : Nat := 0
def PySem.W.Fast.tw11795457092216784078 : Nat := 0
def PySem.W.Fast.tw15171776581089012172 : Nat := 0
def PySem.W.Fast.tw15568522423020289666 : Nat := 0
def PySem.W.Fast.tw6853819490337984800 : Nat := 0
def PySem.W.Fast.tw3277961541562836930 : Nat := 0
def PySem.W.Fast.tw12910763911047508775 : Nat := 0
def PySem.W.Fast.tw4840547137948425270 : Nat := 0
def PySem.W.Fast.tw16738723991678537462 : Nat := 0
def PySem.W.Fast.tw7939677862591697492 : Nat := 0
def PySem.W.Fast.tw11554964141786994598 : Nat := 0
def PySem.W.Fast.tw18263401770965035605 : Nat := 0
def PySem.W.Fast.tw5510557216166220056 : Nat := 0
def PySem.W.Fast.tw5617955982384942007 : Nat := 0
def PySem.W.Fast.tw7763907788900056828 : Nat := 0
def PySem.W.Fast.tw17123024212223983645 : Nat := 0
def PySem.W.Fast.tw11868162799951614706 : Nat := 0
def PySem.W.Fast.tw9904181547382256505 : Nat := 0
def PySem.W.Fast.tw3324013745204707397 : Nat := 0
def PySem.W.Fast.tw2166237955813141794 : Nat := 0
def PySem.W.Fast.tw16681534544643123681 : Nat := 0
def PySem.W.Fast.tw16347655147108328714 : Nat := 0
def PySem.W.Fast.tw5359684457494168596 : Nat := 0
def PySem.W.Fast.tw10178688416048475727 : Nat := 0
def PySem.W.Fast.tw11463350254649678421 : Nat := 0
def PySem.W.Fast.tw7462818028189896212 : Nat := 0
def PySem.W.Fast.tw5651238342763282145 : Nat := 0
def PySem.W.Fast.tw5931511793658803064 : Nat := 0
def PySem.W.Fast.tw507722567823999307 : Nat := 0
def PySem.W.Fast.tw3029550568608672526 : Nat := 0
def PySem.W.Fast.tw9781657035600172248 : Nat := 0
def PySem.W.Fast.tw13833807543575064377 : Nat := 0
def PySem.W.Fast.tw10401842380745721536 : Nat := 0
def PySem.W.Fast.tw11836357671221800572 : Nat := 0
def PySem.W.Fast.tw9355480333853609467 : Nat := 0
def PySem.W.Fast.tw14672969226722176140 : Nat := 0
def PySem.W.Fast.tw17743261729625078157 : Nat := 0
def PySem.W.Fast.tw7698224205202862185 : Nat := 0
def PySem.W.Fast.tw5774890070145643732 : Nat := 0
def PySem.W.Fast.tw3894516530524447883 : Nat := 0
def PySem.W.Fast.tw10664075332596875984 : Nat := 0
def PySem.W.Fast.tw14589309573365318705 : Nat := 0
def PySem.W.Fast.tw4612298761767069040 : Nat := 0
def PySem.W.Fast.tw975286352480963216 : Nat := 0
def PySem.W.Fast.tw17878357798280497455 : Nat := 0
def PySem.W.Fast.tw6472695739844528156 : Nat := 0
set_option Elab.async false
set_option linter.all false
set_option maxRecDepth 100000
namespace L2
open PySem PySem.Spec PyProof.Rows

abbrev Key := Sum Int Str
def keyIs : Key → Value → Bool
  | .inl k, v => Value.isInt k v
  | .inr x, v => Value.isStrOf x v
def keyH (w : World) : Key → Int
  | .inl k => hashInt k
  | .inr x => hashStr w x
theorem keyIs_shape : ∀ {k : Key} {v : Value}, keyIs k v = true → (∃ i t, k = Sum.inl i ∧ v = Value.int i t) ∨ (∃ x t, k = Sum.inr x ∧ v = Value.str x t)
  | .inl i, v, h => by
    obtain ⟨t, e⟩ := Value.isInt_shape (k := i) (v := v) h
    exact .inl ⟨i, t, rfl, e⟩
  | .inr x, v, h => by
    obtain ⟨t, e⟩ := Value.isStrOf_shape (x := x) (v := v) h
    exact .inr ⟨x, t, rfl, e⟩
theorem keyIs_int (i : Int) (t : Tok) : keyIs (.inl i) (.int i t) = true := by simp [keyIs, Value.isInt]
theorem keyIs_str (x : Str) (t : Tok) : keyIs (.inr x) (.str x t) = true := by simp [keyIs, Value.isStrOf]
theorem key_ll (a b : Int) : decide ((Sum.inl a : Key) = Sum.inl b) = (a == b) := by
  by_cases e : a = b
  · subst e; simp
  · have h : ¬ (Sum.inl a : Key) = Sum.inl b := fun q => e (Sum.inl.inj q)
    rw [decide_eq_false h]
    exact (beq_eq_false_iff_ne.mpr e).symm
theorem key_rr (a b : Str) : decide ((Sum.inr a : Key) = Sum.inr b) = decide (a = b) := by
  by_cases e : a = b
  · subst e; simp
  · have h : ¬ (Sum.inr a : Key) = Sum.inr b := fun q => e (Sum.inr.inj q)
    rw [decide_eq_false h, decide_eq_false e]
theorem key_lr (a : Int) (b : Str) : decide ((Sum.inl a : Key) = Sum.inr b) = false := decide_eq_false (fun q => nomatch q)
theorem key_rl (a : Str) (b : Int) : decide ((Sum.inr a : Key) = Sum.inl b) = false := decide_eq_false (fun q => nomatch q)

def mixKind (prog : Program) (w : World) : PySem.KeyKind prog w Key where
  is := keyIs
  hash := keyH w
  inj := fun v a b ha hb => by
    rcases keyIs_shape ha with ⟨i, t, rfl, rfl⟩ | ⟨x, t, rfl, rfl⟩
    · rcases keyIs_shape hb with ⟨j, u, rfl, e⟩ | ⟨y, u, rfl, e⟩
      · injection e with e1 _; rw [e1]
      · exact nomatch e
    · rcases keyIs_shape hb with ⟨j, u, rfl, e⟩ | ⟨y, u, rfl, e⟩
      · exact nomatch e
      · injection e with e1 _; rw [e1]
  byValue := fun k v h => by
    rcases keyIs_shape h with ⟨i, t, rfl, rfl⟩ | ⟨x, t, rfl, rfl⟩ <;> rfl
  pyHash := fun hv h => by
    rcases keyIs_shape hv with ⟨i, t, rfl, rfl⟩ | ⟨x, t, rfl, rfl⟩
    · exact wpAny_pyHash_int h
    · exact wpAny_pyHash_str h
  eqBool := fun hu hv h => by
    rcases keyIs_shape hu with ⟨i, t, rfl, rfl⟩ | ⟨x, t, rfl, rfl⟩
    · rcases keyIs_shape hv with ⟨j, u, rfl, rfl⟩ | ⟨y, u, rfl, rfl⟩
      · rw [key_ll] at h; exact wpAny_eqBool_int h
      · rw [key_lr] at h; exact SeqAt.EqAt.int_str i t y u _ _ _ _ h
    · rcases keyIs_shape hv with ⟨j, u, rfl, rfl⟩ | ⟨y, u, rfl, rfl⟩
      · rw [key_rl] at h; exact SeqAt.EqAt.str_int x t j u _ _ _ _ h
      · rw [key_rr] at h; exact wpAny_eqBool_str h
  «strs» := fun k x t v h => by
    rcases keyIs_shape h with ⟨i, u, rfl, e⟩ | ⟨y, u, rfl, e⟩
    · exact nomatch e
    · injection e with e1 _
      subst e1
      cases v <;> rfl

theorem mixKind_int (prog : Program) (w : World) (i : Int) (t : Tok) : (mixKind prog w).is (.inl i) (.int i t) = true := keyIs_int i t
theorem mixKind_str (prog : Program) (w : World) (x : Str) (t : Tok) : (mixKind prog w).is (.inr x) (.str x t) = true := keyIs_str x t
end L2

namespace L2
open PySem PySem.Spec PyProof.Rows

inductive V where
  | non | bl (b : Bool) | int (i : Int) | str (x : Str) | byt (b : Array UInt8) | flt (b : UInt64) | ref (a : Addr) | ty (n : String)
  deriving DecidableEq

def RelV : V → Value → Prop
  | .non, u => u = Value.none
  | .bl b, u => u = Value.bool b
  | .int i, u => ∃ t, u = Value.int i t
  | .str x, u => ∃ t, u = Value.str x t
  | .byt b, u => ∃ t, u = Value.bytes b t
  | .flt b, u => ∃ t, u = Value.float b t
  | .ref a, u => u = Value.ref a
  | .ty n, u => u = Value.type n

abbrev Vals : List V → List Value → Prop := Paired RelV
theorem Vals.length {xs : List V} {us : List Value} (r : Vals xs us) : xs.length = us.length := Paired.length r
theorem Vals.get : ∀ {xs : List V} {us : List Value} {i : Nat} {x : V}, Vals xs us → xs[i]? = some x → ∃ u, us[i]? = some u ∧ RelV x u
  | _, _, _, _, .nil, e => by simp at e
  | _, _, 0, _, .cons r _, e => by simp at e; subst e; exact ⟨_, rfl, r⟩
  | _, _, i + 1, x, .cons _ t, e => by
    obtain ⟨u, h1, h2⟩ := Vals.get (i := i) (x := x) t (by simpa using e)
    exact ⟨u, by simpa using h1, h2⟩
theorem Vals.set {x : V} {u : Value} (r : RelV x u) : ∀ {xs : List V} {us : List Value} (i : Nat), Vals xs us → Vals (xs.set i x) (us.set i u)
  | _, _, _, .nil => .nil
  | _, _, 0, .cons _ t => .cons r t
  | _, _, i + 1, .cons q t => .cons q (Vals.set r i t)
theorem Vals.append : ∀ {xs ys : List V} {us ws : List Value}, Vals xs us → Vals ys ws → Vals (xs ++ ys) (us ++ ws)
  := by
  intro xs ys us ws h s
  induction h with
  | nil => exact s
  | cons r t ih => exact .cons r ih
theorem Vals.take : ∀ {xs : List V} {us : List Value} (n : Nat), Vals xs us → Vals (xs.take n) (us.take n)
  | _, _, 0, _ => .nil
  | _, _, _ + 1, .nil => .nil
  | _, _, n + 1, .cons r t => .cons r (Vals.take n t)
theorem Vals.drop : ∀ {xs : List V} {us : List Value} (n : Nat), Vals xs us → Vals (xs.drop n) (us.drop n)
  | _, _, 0, r => r
  | _, _, _ + 1, .nil => .nil
  | _, _, n + 1, .cons _ t => Vals.drop n t
def RelO : Option V → Option Value → Prop
  | some v, some u => RelV v u
  | none, none => True
  | _, _ => False
def KV {κ : Type} : List (κ × V) → List (κ × Value) → Prop := Paired fun (p : κ × V) (q : κ × Value) => p.1 = q.1 ∧ RelV p.2 q.2

def kV : Key → V
  | .inl i => .int i
  | .inr x => .str x

inductive HO where
  /-- a list -/
  | lst (xs : List V)
  /-- a tuple (never changes) -/
  | tup (xs : List V)
  /-- a dict whose keys are ints and texts; one whose keys are tuples of ints and texts (the empty one is both) -/
  | dK (kvs : List (Key × V)) | dT (kvs : List (List Key × V))
  /-- a set of ints: its members, its size -/
  | set (S : Int → Bool) (n : Nat)
  /-- an instance of the class at C, its dict at dx, its attributes -/
  | ins (C dx : Addr) (fs : List (Str × V))
  /-- the dict of the instance at x -/
  | own (x : Addr)
  /-- the dict of an exception -/
  | xd (fs : List (Str × V))
  /-- a bound method, f of x -/
  | met (f x : Addr)
  /-- a range object lo, lo + 1, .. below hi -/
  | rng (lo hi : Int)
  /-- a thing that is known to the object (the script; a dict while a loop walks it): read, never written while it is so -/
  | frz (o : Obj) (u : HO)
  /-- a code object's table -/
  | tbl (ps : Array Value)
  /-- a code object's table, all of whose codes have the name q; they are tracked as its own -/
  | tab (q : Str)
  /-- any other thing, by what is true of its one object (a def of one's own: SetO a S n := HO.ext fun h => ..) -/
  | ext (φ : Heap → Prop)

abbrev Hp := Addr → Option HO
def upd (H : Hp) (a : Addr) (o : HO) : Hp := fun b => if b = a then some o else H b
theorem upd_same {H : Hp} {a : Addr} {o : HO} : upd H a o a = some o := by unfold upd; rw [if_pos rfl]
theorem upd_ne {H : Hp} {a b : Addr} {o : HO} (h : b ≠ a) : upd H a o b = H b := by unfold upd; rw [if_neg h]
theorem ne_of_none {H : Hp} {a b : Addr} {o : HO} (h : H a = some o) (h' : H b = none) : a ≠ b := by
  intro e; subst e; rw [h] at h'; cases h'

section
variable (P : Program) (w : World)
def ObjOk (H : Hp) (h : Heap) (a : Addr) : HO → Prop
  | .lst xs => xs.length ≤ sizeLine ∧ ∃ (its : List Value) (n : Nat), Vals xs its ∧ h.get? a = some { cls := .type "list", data := .seq its.toArray n }
  | .tup xs => xs.length ≤ sizeLine ∧ ∃ (its : List Value) (n : Nat), Vals xs its ∧ h.get? a = some { cls := .type "tuple", data := .seq its.toArray n }
  | .dK kvs => kvs.length ≤ sizeLine ∧ (a == sysModules) = false ∧ ∃ vs, KV kvs vs ∧ h.DictOf (mixKind P w) a vs
  | .dT kvs => kvs.length ≤ sizeLine ∧ (a == sysModules) = false ∧ ∃ xs : List (List Key × Addr × Value),
      Paired (fun (p : List Key × V) (q : List Key × Addr × Value) => p.1 = q.1 ∧ H q.2.1 = some (.tup (p.1.map kV)) ∧ RelV p.2 q.2.2) kvs xs ∧
      ∃ o es ep, h.get? a = some o ∧ o.ExactDict ∧ o.data = .dict es ep ∧ es.toList = xs.map (entryOfKey (tupleKind (mixKind P w))) ∧ (xs.map (·.1)).Nodup
  | .set S n => h.SetOf (intKind P w) a S n
  | .ins C dx fs => H dx = some (.own a) ∧ fs.length ≤ 1000 ∧ dx ≠ a ∧ h.get? a = some (PySem.W.instObj C dx) ∧
      ∃ mA, h.Ns1 dx mA ∧ (∀ f, RelO (fs.lookup f) (mA f)) ∧ PySem.Within mA (fs.map (·.1))
  | .own _ => ∃ o, h.get? a = some o
  | .xd fs => ∃ mA, h.Ns1 a mA ∧ ∀ f, RelO (fs.lookup f) (mA f)
  | .rng lo hi => ∃ t u v, h.get? a = some { cls := .type "range", data := .fields #[.int lo t, .int hi u, .int 1 v] }
  | .frz o u => h.get? a = some o ∧ ObjOk H h a u
  | .tbl ps => h.get? a = some { cls := .none, data := .fields ps }
  | .tab q => ∃ ps : Array Value, h.get? a = some { cls := .none, data := .fields ps } ∧ TriplesOk ps.toList ∧ ∀ (pos : Pos) (cv : Value), codeAmong pos ps.toList = some cv → ∃ (c : Addr) (o : Obj) (vs : Array Value) (t : Tok), cv = .ref c ∧ H c = some (.own a) ∧ h.get? c = some o ∧ o.data = .fields vs ∧ vs[1]? = some (.str q t)
  | .met f x => h.get? a = some (PySem.W.methodObj (.ref f) (.ref x))
  | .ext φ => φ h ∧ (∃ o, h.get? a = some o) ∧ ∀ h1 h2 : Heap, φ h1 → (∀ o, h1.get? a = some o → h2.get? a = some o) → φ h2
def HOk (H : Hp) (h : Heap) : Prop := ∀ a o, H a = some o → ObjOk P w H h a o
end

section
variable {P : Program} {w : World} {H H' : Hp} {h h' : Heap} {a : Addr} {o : HO}
theorem ObjOk.lt (x : ObjOk P w H h a o) : a < h.objs.size := by
  cases o with
  | lst xs => obtain ⟨_, _, _, _, e⟩ := x; exact Heap.lt_size e
  | tup xs => obtain ⟨_, _, _, _, e⟩ := x; exact Heap.lt_size e
  | dK kvs => obtain ⟨_, _, _, _, o, _, _, e, _⟩ := x; exact Heap.lt_size e
  | dT kvs => obtain ⟨_, _, _, _, o, _, _, e, _⟩ := x; exact Heap.lt_size e
  | set S n => obtain ⟨o, _, _, _, e, _⟩ := x; exact Heap.lt_size e
  | ins C dx fs => obtain ⟨_, _, _, e, _⟩ := x; exact Heap.lt_size e
  | own y => obtain ⟨_, e⟩ := x; exact Heap.lt_size e
  | xd fs => obtain ⟨_, ⟨_, _, _, e, _⟩, _⟩ := x; exact Heap.lt_size e
  | rng lo hi => obtain ⟨_, _, _, e⟩ := x; exact Heap.lt_size e
  | frz ob u => obtain ⟨e, _⟩ := x; exact Heap.lt_size e
  | tbl ps => exact Heap.lt_size (show h.get? a = some _ from x)
  | tab q => obtain ⟨_, e, _⟩ := x; exact Heap.lt_size e
  | met f y => exact Heap.lt_size (show h.get? a = some _ from x)
  | ext φ => obtain ⟨_, ⟨_, e⟩, _⟩ := x; exact Heap.lt_size e
theorem Paired.mapP {α β : Type} {F G : α → β → Prop} : ∀ {l₁ : List α} {l₂ : List β}, Paired F l₁ l₂ → (∀ a b, F a b → G a b) → Paired G l₁ l₂
  := by
  intro l₁ l₂ h f
  induction h with
  | nil => exact .nil
  | cons r t ih => exact .cons (f _ _ r) ih
theorem ObjOk.stay (x : ObjOk P w H h a o) (k : ∀ b u, (b = a ∨ H b = some (.own a)) → h.get? b = some u → h'.get? b = some u)
    (ho : ∀ b, H b = some (.own a) → H' b = some (.own a)) (ht : ∀ b xs, H b = some (.tup xs) → H' b = some (.tup xs)) : ObjOk P w H' h' a o := by
  induction o with
  | lst xs => obtain ⟨z, its, n, r, e⟩ := x; exact ⟨z, its, n, r, k _ _ (.inl rfl) e⟩
  | tup xs => obtain ⟨z, its, n, r, e⟩ := x; exact ⟨z, its, n, r, k _ _ (.inl rfl) e⟩
  | dK kvs => obtain ⟨z, y, vs, r, ob, es, ep, e, c⟩ := x; exact ⟨z, y, vs, r, ob, es, ep, k _ _ (.inl rfl) e, c⟩
  | dT kvs =>
    obtain ⟨z, y, xs, r, ob, es, ep, e, c⟩ := x
    exact ⟨z, y, xs, Paired.mapP r fun p q z => ⟨z.1, ht _ _ z.2.1, z.2.2⟩, ob, es, ep, k _ _ (.inl rfl) e, c⟩
  | set S n => obtain ⟨ob, es, ep, t, e, c⟩ := x; exact ⟨ob, es, ep, t, k _ _ (.inl rfl) e, c⟩
  | ins C dx fs =>
    obtain ⟨d, z, ne, e, mA, ⟨od, es, ep, e2, c⟩, r⟩ := x
    exact ⟨ho _ d, z, ne, k _ _ (.inl rfl) e, mA, ⟨od, es, ep, k _ _ (.inr d) e2, c⟩, r⟩
  | own y => obtain ⟨ob, e⟩ := x; exact ⟨ob, k _ _ (.inl rfl) e⟩
  | xd fs => obtain ⟨mA, ⟨od, es, ep, e, c⟩, r⟩ := x; exact ⟨mA, ⟨od, es, ep, k _ _ (.inl rfl) e, c⟩, r⟩
  | rng lo hi => obtain ⟨t, u, v, e⟩ := x; exact ⟨t, u, v, k _ _ (.inl rfl) e⟩
  | frz ob u ih => obtain ⟨e, q⟩ := x; exact ⟨k _ _ (.inl rfl) e, ih q⟩
  | tbl ps =>
    have e : h.get? a = some { cls := .none, data := .fields ps } := x
    show h'.get? a = some { cls := .none, data := .fields ps }
    exact k a _ (.inl rfl) e
  | tab q =>
    obtain ⟨ps, e, z, r⟩ := x
    refine ⟨ps, k _ _ (.inl rfl) e, z, fun pos cv q => ?_⟩
    obtain ⟨c, o, vs, t, r1, r2, r3, r4⟩ := r pos cv q
    exact ⟨c, o, vs, t, r1, ho _ r2, k _ _ (.inr r2) r3, r4⟩
  | met f y =>
    have e : h.get? a = some (PySem.W.methodObj (.ref f) (.ref y)) := x
    show h'.get? a = some (PySem.W.methodObj (.ref f) (.ref y))
    exact k a _ (.inl rfl) e
  | ext φ => obtain ⟨p, ⟨o, e⟩, st⟩ := x; exact ⟨st _ _ p fun o q => k _ _ (.inl rfl) q, ⟨o, k _ _ (.inl rfl) e⟩, st⟩
theorem HOk.lt (x : HOk P w H h) (e : H a = some o) : a < h.objs.size := (x a o e).lt
theorem HOk.fresh (x : HOk P w H h) (e : h.objs.size ≤ a) : H a = none := by
  cases q : H a with
  | none => rfl
  | some u => exact absurd (Nat.lt_of_lt_of_le (x.lt q) e) (Nat.lt_irrefl _)
theorem HOk.kept (x : HOk P w H h) (k : ∀ b u, h.get? b = some u → h'.get? b = some u) : HOk P w H h' := fun a o e =>
  (x a o e).stay (fun b u _ q => k b u q) (fun _ q => q) fun _ _ q => q
theorem HOk.laid (x : HOk P w H h) (k : ∀ b u, h.get? b = some u → h'.get? b = some u) (hp : h.objs.size ≤ a) (new : ObjOk P w (upd H a o) h' a o) : HOk P w (upd H a o) h' := fun b u e => by
  have hn := x.fresh hp
  by_cases hb : b = a
  · subst hb; rw [upd_same] at e; cases e; exact new
  · rw [upd_ne hb] at e
    exact (x b u e).stay (fun c v _ q => k c v q) (fun c q => by rw [upd_ne (ne_of_none q hn)]; exact q) fun c xs q => by rw [upd_ne (ne_of_none q hn)]; exact q
end

def Rd (H : Hp) (a : Addr) (u : HO) : Prop := H a = some u ∨ ∃ o, H a = some (.frz o u)
theorem Rd.of {H : Hp} {a : Addr} {u : HO} (h : H a = some u) : Rd H a u := .inl h
theorem Rd.ok {P : Program} {w : World} {H : Hp} {h : Heap} {a : Addr} {u : HO} (r : Rd H a u) (x : HOk P w H h) : ObjOk P w H h a u := by
  rcases r with r | ⟨o, r⟩
  · exact x a u r
  · obtain ⟨_, q⟩ := x a _ r
    exact q
def Mut : Option HO → Prop
  | some (.lst _) => True
  | some (.dK _) => True
  | some (.dT _) => True
  | some (.set _ _) => True
  | some (.ins _ _ _) => True
  | some (.ext _) => True
  | some (.tab _) => True
  | _ => False
section
variable {P : Program} {w : World} {H : Hp} {h h' : Heap} {x e : Addr} {o' : HO}
theorem HOk.write (ok : HOk P w H h) (mu : Mut (H x)) (he : e = x ∨ H e = some (.own x)) (k : ∀ b u, b ≠ e → h.get? b = some u → h'.get? b = some u) (heo : ∃ u, h'.get? e = some u)
    (new : ObjOk P w (upd H x o') h' x o') : HOk P w (upd H x o') h' := fun b u q => by
  have nown : ∀ c y, H c = some (.own y) → c ≠ x := fun c y r z => by subst z; rw [r] at mu; exact mu
  have ntup : ∀ c xs, H c = some (.tup xs) → c ≠ x := fun c xs r z => by subst z; rw [r] at mu; exact mu
  by_cases hb : b = x
  · subst hb; rw [upd_same] at q; cases q; exact new
  · rw [upd_ne hb] at q
    by_cases hbe : b = e
    · have q' : H b = some (.own x) := by
        rcases he with z | z
        · exact absurd (hbe.trans z) hb
        · rw [hbe]; exact z
      rw [q] at q'; cases q'
      obtain ⟨v, hv⟩ := heo
      exact ⟨v, by rw [hbe]; exact hv⟩
    · refine (ok b u q).stay (fun c v hc r => k c v ?_ r) (fun c r => by rw [upd_ne (nown c b r)]; exact r) fun c xs r => by rw [upd_ne (ntup c xs r)]; exact r
      rcases hc with rfl | hc
      · exact hbe
      · rintro rfl
        rcases he with z | z
        · exact nown c b hc z
        · rw [hc] at z; cases z; exact hb rfl
end

structure Un (fs ex : List Addr) (H H' : Hp) (h h' : Heap) : Prop where
  keep : ∀ b o, h.get? b = some o → H b = none → b ∉ fs → b ∉ ex → h'.get? b = some o
  slot : ∀ b o, h.get? b = some o → H b = none → b ∈ fs → b ∉ ex → ∃ sl, h'.get? b = some { o with slots := sl }
  free : ∀ b o, h.get? b = some o → H b = none → b ∉ ex → H' b = none
  there : ∀ b o, h.get? b = some o → b ∉ ex → ∃ o', h'.get? b = some o'
  tups : ∀ b xs, H b = some (.tup xs) → H' b = some (.tup xs)
  frzs : ∀ b o u, H b = some (.frz o u) → H' b = some (.frz o u)
  tbls : ∀ b ps, H b = some (.tbl ps) → ∃ more, H' b = some (.tbl (ps ++ more))
section
variable {fs fs' ex ex' : List Addr} {H H1 H2 : Hp} {h h1 h2 h' : Heap} {a x e : Addr} {o : HO}
theorem Un.any (u : Un fs ex H H1 h h1) {b : Addr} {ob : Obj} (q : h.get? b = some ob) (n : H b = none) (hx : b ∉ ex) : ∃ sl, h1.get? b = some { ob with slots := sl } := by
  by_cases hb : b ∈ fs
  · exact u.slot b ob q n hb hx
  · exact ⟨ob.slots, u.keep b ob q n hb hx⟩
theorem Un.trans (a : Un fs ex H H1 h h1) (b : Un fs ex H1 H2 h1 h2) : Un fs ex H H2 h h2 where
  keep := fun c ob q n hc hx => b.keep c ob (a.keep c ob q n hc hx) (a.free c ob q n hx) hc hx
  slot := fun c ob q n hc hx => by
    obtain ⟨sl, e1⟩ := a.slot c ob q n hc hx
    obtain ⟨sl', e2⟩ := b.slot c _ e1 (a.free c ob q n hx) hc hx
    exact ⟨sl', e2⟩
  free := fun c ob q n hx => by
    obtain ⟨o', e1⟩ := a.there c ob q hx
    exact b.free c o' e1 (a.free c ob q n hx) hx
  there := fun c ob q hx => by
    obtain ⟨o', e1⟩ := a.there c ob q hx
    exact b.there c o' e1 hx
  tups := fun c xs q => b.tups c xs (a.tups c xs q)
  frzs := fun c ob xs q => b.frzs c ob xs (a.frzs c ob xs q)
  tbls := fun c ps q => by
    obtain ⟨m1, e1⟩ := a.tbls c ps q
    obtain ⟨m2, e2⟩ := b.tbls c _ e1
    exact ⟨m1 ++ m2, by rw [e2, Array.append_assoc]⟩
theorem Un.kept (k : ∀ b u, h.get? b = some u → h'.get? b = some u) : Un fs ex H H h h' :=
  ⟨fun b ob q _ _ _ => k b ob q, fun b ob q _ _ _ => ⟨ob.slots, k b ob q⟩, fun _ _ _ n _ => n, fun b ob q _ => ⟨ob, k b ob q⟩, fun _ _ q => q, fun _ _ _ q => q, fun _ ps q => ⟨#[], by rw [q]; simp⟩⟩
theorem Un.refl : Un fs ex H H h h := Un.kept fun _ _ q => q
theorem Un.laid (k : ∀ b u, h.get? b = some u → h'.get? b = some u) (hp : h.objs.size ≤ a) (hn : H a = none) : Un fs ex H (upd H a o) h h' where
  keep := fun b u q _ _ _ => k b u q
  slot := fun b u q _ _ _ => ⟨u.slots, k b u q⟩
  free := fun b u q n _ => by rw [upd_ne (Nat.ne_of_lt (Nat.lt_of_lt_of_le (Heap.lt_size q) hp))]; exact n
  there := fun b u q _ => ⟨u, k b u q⟩
  tups := fun b xs q => by rw [upd_ne (ne_of_none q hn)]; exact q
  frzs := fun b u xs q => by rw [upd_ne (ne_of_none q hn)]; exact q
  tbls := fun b ps q => ⟨#[], by rw [upd_ne (ne_of_none q hn), q]; simp⟩
theorem Un.write (mu : Mut (H x)) (he : e = x ∨ H e = some (.own x)) (k : ∀ b u, b ≠ e → h.get? b = some u → h'.get? b = some u) (heo : ∃ u, h'.get? e = some u) : Un fs ex H (upd H x o) h h' := by
  have hx : ∀ b, H b = none → b ≠ x := fun b n z => by subst z; rw [n] at mu; exact mu
  have hb : ∀ b, H b = none → b ≠ e := fun b n z => by
    subst z
    rcases he with r | r
    · exact hx b n r
    · rw [n] at r; cases r
  have hm : ∀ b u, H b = some u → ¬ Mut (some u) → b ≠ x := fun b u q nm z => by subst z; rw [q] at mu; exact nm mu
  refine ⟨fun b u q n _ _ => k b u (hb b n) q, fun b u q n _ _ => ⟨u.slots, k b u (hb b n) q⟩, fun b u q n _ => by rw [upd_ne (hx b n)]; exact n, fun b u q _ => ?_,
    fun b xs q => by rw [upd_ne (hm b _ q fun z => z)]; exact q, fun b u xs q => by rw [upd_ne (hm b _ q fun z => z)]; exact q, fun b ps q => ⟨#[], by rw [upd_ne (hm b _ q fun z => z), q]; simp⟩⟩
  by_cases hbe : b = e
  · subst hbe; exact heo
  · exact ⟨u, k b u hbe q⟩
theorem Un.mono (u : Un fs ex H H1 h h1) (hs : ∀ b ∈ fs, b ∈ fs') (hx : ∀ b ∈ ex, b ∈ ex') : Un fs' ex' H H1 h h1 :=
  ⟨fun b ob q n hb he => u.keep b ob q n (fun z => hb (hs b z)) fun z => he (hx b z), fun _ _ q n _ he => u.any q n fun z => he (hx _ z), fun b ob q n he => u.free b ob q n fun z => he (hx b z), fun b ob q he => u.there b ob q fun z => he (hx b z), u.tups, u.frzs, u.tbls⟩
end

def trk (h : Heap) (H : Hp) : List Addr := (List.range h.objs.size).filter fun a => (H a).isSome
def hidT (h : Heap) (H : Hp) : Heap := PySem.W.hideAll h (trk h H)
theorem hidT_size (h : Heap) (H : Hp) : (hidT h H).objs.size = h.objs.size := PySem.W.hideAll_size _ _
theorem hidT_get {h : Heap} {H : Hp} {b : Addr} {o : Obj} (e : h.get? b = some o) (n : H b = none) : (hidT h H).get? b = some o :=
  PySem.W.hideAll_get _ e fun hm => by
    have q : (H b).isSome = true := (List.mem_filter.mp hm).2
    rw [n] at q; simp at q
theorem of_hidT {h : Heap} {H : Hp} {b : Addr} {o : Obj} (e : (hidT h H).get? b = some o) : h.get? b = some o ∧ H b = none := by
  have e' : h.get? b = some o := PySem.W.of_hideAll (trk h H) e
  refine ⟨e', ?_⟩
  cases q : H b with
  | none => rfl
  | some x =>
    have hm : b ∈ trk h H := List.mem_filter.mpr ⟨List.mem_range.mpr (Heap.lt_size e'), by simp [q]⟩
    have z : (hidT h H).get? b = none := PySem.W.hideAll_none (trk h H) hm
    rw [z] at e; cases e

def allNews (g h : Heap) (L : Addr) : List (Addr × Obj) := (List.range h.objs.size).filterMap fun a => if a = L ∨ (g.get? a).isSome = true then none else (h.get? a).map fun o => (a, o)
def rest (g h : Heap) (L d : Addr) : List (Addr × Obj) := (allNews g h L).filter fun p => decide (p.1 ≠ d)
end L2

namespace L2
open PySem PySem.Spec PyProof.Rows

structure Mod (K : PySem.W.Frag) (mg : Str → Option Value) (base : Heap) : Prop where
  kin : K.In base
  glob : base.Ns mainGlobals mg
  blt : ∃ mb, base.Ns builtinsNs mb ∧ ∀ x : Str, x ≠ "__name__" → mb x = bootBuiltins x
  nolimit : base.NoLimit
  mods : ∃ mm, base.Ns sysModules mm

structure Cx where
  prog : Program
  w : World
  K : PySem.W.Frag
  mg : Str → Option Value
  base : Heap
  A : Around
  N : List Str
  s₀ : Shared
  H₀ : Hp
  env : Env
  outer : List Env
  stack : List Env
  ex : List Addr
  fn : Str → Bool
  calm : Bool
  pn : List (Addr × Obj)
  xe : Value → Shared → Prop
def frs (l : List Env) : List Addr := l.filterMap (·.frame)
abbrev Cx.fs (X : Cx) : List Addr := frs X.outer

def Vis (sc : Scope) (x : Str) : Prop := sc.names.lookup x = some .local ∨ sc.names.lookup x = some .cell ∨ sc.names.lookup x = some .free
def Loc (sc : Scope) (x : Str) : Prop := sc.names.lookup x = some .local ∨ sc.names.lookup x = some .cell
def Look (env : Env) (h : Heap) (m : Str → Option Value) (x : Str) (u : Value) : Prop :=
  (env.kindOf x = some .local ∧ m x = some u) ∨ ((env.kindOf x = some .cell ∨ env.kindOf x = some .free) ∧ ∃ c, env.cells.lookup x = some c ∧ h.IsCell c (some u))

structure Cx.Ok (X : Cx) : Prop where
  mod : Mod X.K X.mg X.base
  kind : X.env.scope.kind = .function
  glob : X.env.globals = mainGlobals
  blt : X.env.builtins = builtinsNs
  above : X.s₀.heap.objs.size ≤ X.env.locals
  inj : ∀ x y c, X.env.cells.lookup x = some c → X.env.cells.lookup y = some c → x = y
  has : ∀ x, (X.env.kindOf x = some .cell ∨ X.env.kindOf x = some .free) → ∃ c, X.env.cells.lookup x = some c
  cab : ∀ x c, X.fn x = true → X.env.cells.lookup x = some c → X.s₀.heap.objs.size ≤ c
  hd : X.calm = true → X.A.handled = none
  frames : X.A.frames = some X.stack
  stk : X.stack = X.outer ∨ (X.stack = X.env :: X.outer ∧ X.env.frame = some X.env.locals)
  exf : ∀ b ∈ X.ex, b ≠ X.env.locals ∧ ∀ x c, X.env.cells.lookup x = some c → c ≠ b
  bs : ∀ b o, X.base.get? b = some o → X.s₀.heap.get? b = some o ∧ X.H₀ b = none
  bsz : X.base.objs.size ≤ X.s₀.heap.objs.size
  noex : ∀ b o, X.base.get? b = some o → b ∉ X.ex
  exfs : ∀ b ∈ X.ex, b ∉ X.fs
  funs : X.s₀.heap.FunFrames X.base X.outer
  frf : ∀ b ∈ X.fs, X.H₀ b = none

structure Inv (X : Cx) (pins : List (Addr × Obj)) (σ : List (Option V)) (H : Hp) (s : Shared) : Prop where
  ok : X.Ok
  os : s.os = X.s₀.os
  bare : AllBare s.gens
  base : Un X.fs X.ex X.H₀ H X.s₀.heap s.heap
  loc : ∃ m, s.heap.Ns X.env.locals m ∧ ∀ (i : Nat) (x : Str) (v : V), X.N[i]? = some x → σ[i]? = some (some v) → Vis X.env.scope x → ∃ u, RelV v u ∧ Look X.env s.heap m x u
  cell : ∀ x c, X.env.cells.lookup x = some c → ∃ v, s.heap.IsCell c v
  free : H X.env.locals = none
  freeC : ∀ x c, X.env.cells.lookup x = some c → H c = none
  pin : ∀ p ∈ X.pn ++ pins, s.heap.get? p.1 = some p.2 ∧ H p.1 = none ∧ p.1 ≠ X.env.locals ∧ p.1 ∉ X.fs ∧ ∀ v, p.2.data ≠ .cell v
  hok : HOk X.prog X.w H s.heap
  len : σ.length = X.N.length

section
variable {X : Cx} {pins : List (Addr × Obj)} {σ : List (Option V)} {H H' : Hp} {s : Shared} {h' : Heap}

theorem Cx.Ok.nofr (ok : X.Ok) {b : Addr} {o : Obj} (e : X.base.get? b = some o) : b ∉ X.fs := fun hb => by
  have := (ok.funs.mem hb).1
  rw [e] at this; cases this
theorem Inv.bs (I : Inv X pins σ H s) : ∀ b o, X.base.get? b = some o → s.heap.get? b = some o ∧ H b = none := fun b o e =>
  ⟨I.base.keep b o (I.ok.bs b o e).1 (I.ok.bs b o e).2 (I.ok.nofr e) (I.ok.noex b o e), I.base.free b o (I.ok.bs b o e).1 (I.ok.bs b o e).2 (I.ok.noex b o e)⟩
theorem Inv.bk (I : Inv X pins σ H s) : ∀ b o, X.base.get? b = some o → s.heap.get? b = some o := fun b o e => (I.bs b o e).1
theorem Inv.mod (I : Inv X pins σ H s) : Mod X.K X.mg X.base := I.ok.mod
theorem Inv.kIn (I : Inv X pins σ H s) : X.K.In s.heap := I.ok.mod.kin.keeps I.bk
theorem Inv.nolimit (I : Inv X pins σ H s) : s.heap.NoLimit := I.ok.mod.nolimit.keeps I.bk
theorem Inv.fr (I : Inv X pins σ H s) : ∃ m, Fr X.base X.env.locals s.heap m :=
  let ⟨m, hn, _⟩ := I.loc
  ⟨m, hn, I.bk, Nat.le_trans I.ok.bsz I.ok.above⟩
theorem Inv.lt (I : Inv X pins σ H s) : X.env.locals < s.heap.objs.size := let ⟨_, hn, _⟩ := I.loc; hn.lt
theorem Inv.sz (I : Inv X pins σ H s) : X.s₀.heap.objs.size ≤ s.heap.objs.size := Nat.le_trans I.ok.above (Nat.le_of_lt I.lt)
theorem Inv.nofs (I : Inv X pins σ H s) {a : Addr} (h : s.heap.objs.size ≤ a) : a ∉ X.fs := fun hb => by
  obtain ⟨_, o, ho, _⟩ := I.ok.funs.mem hb
  exact absurd (Nat.lt_of_lt_of_le (Heap.lt_size ho) (Nat.le_trans I.sz h)) (Nat.lt_irrefl _)
theorem Inv.cne (I : Inv X pins σ H s) : ∀ x c, X.env.cells.lookup x = some c → c ≠ X.env.locals := fun x c e z => by
  obtain ⟨v, o, ho, hd⟩ := I.cell x c e
  obtain ⟨m, ⟨o', es, ep, ho', hd', _⟩, _⟩ := I.loc
  rw [z, ho'] at ho; cases ho; rw [hd'] at hd; cases hd
theorem Inv.funs (I : Inv X pins σ H s) : s.heap.FunFrames X.base X.outer := by
  have all : ∀ (l : List Env), (∀ b ∈ frs l, b ∈ X.fs) → X.s₀.heap.FunFrames X.base l → s.heap.FunFrames X.base l := by
    intro l
    induction l with
    | nil => intro _ _; trivial
    | cons env r ih =>
      intro hs hl
      obtain ⟨hk, ⟨L, o, hf, hn, ho, hd⟩, hr⟩ := hl
      have hL : L ∈ X.fs := hs L (by unfold frs; rw [List.filterMap_cons, hf]; exact List.mem_cons_self)
      obtain ⟨sl, e⟩ := I.base.slot L o ho (I.ok.frf L hL) hL fun z => I.ok.exfs L z hL
      exact ⟨hk, ⟨L, _, hf, hn, e, hd⟩, ih (fun b hb => hs b (by unfold frs; rw [List.filterMap_cons, hf]; exact List.mem_cons_of_mem _ hb)) hr⟩
  exact all X.outer (fun _ hb => hb) I.ok.funs

theorem Inv.stack (I : Inv X pins σ H s) : s.heap.FunFrames X.base X.stack := by
  rcases I.ok.stk with e | ⟨e, hf⟩
  · rw [e]; exact I.funs
  · rw [e]
    obtain ⟨m, hn, _⟩ := I.loc
    refine .cons (by rw [I.ok.kind]; decide) hf hn ?_ I.funs
    exact Heap.get?_none_of_le (Nat.le_trans I.ok.bsz I.ok.above)
theorem Inv.stkSub (I : Inv X pins σ H s) : ∀ b ∈ frs X.stack, b ∈ X.env.locals :: X.fs := fun b hb => by
  rcases I.ok.stk with e | ⟨e, hf⟩
  · rw [e] at hb; exact List.mem_cons_of_mem _ hb
  · rw [e] at hb
    unfold frs at hb
    rw [List.filterMap_cons, hf] at hb
    exact hb
theorem Inv.stkFree (I : Inv X pins σ H s) : ∀ b ∈ frs X.stack, H b = none := fun b hb => by
  rcases List.mem_cons.mp (I.stkSub b hb) with e | hb
  · rw [e]; exact I.free
  · obtain ⟨_, o, ho, _⟩ := I.ok.funs.mem hb
    exact I.base.free b o ho (I.ok.frf b hb) fun z => I.ok.exfs b z hb

theorem Inv.step {g' : Array GenState} {t' : Nat} {d' : Drawn} {ch : List Addr} (I : Inv X pins σ H s)
    (hch : ∀ b ∈ ch, (b ∈ X.ex ∨ X.s₀.heap.objs.size ≤ b) ∧ b ≠ X.env.locals ∧ (∀ x c, X.env.cells.lookup x = some c → c ≠ b) ∧ ∀ p ∈ X.pn ++ pins, p.1 ≠ b)
    (keep : ∀ b o, b ≠ X.env.locals → b ∉ X.fs → b ∉ ch → s.heap.get? b = some o → H b = none → h'.get? b = some o)
    (slot : ∀ b o, b ≠ X.env.locals → b ∈ X.fs → b ∉ ch → s.heap.get? b = some o → H b = none → ∃ sl, h'.get? b = some { o with slots := sl }) (free : ∀ b o, b ∉ ch → s.heap.get? b = some o → H b = none → H' b = none)
    (there : ∀ b o, b ∉ ch → s.heap.get? b = some o → ∃ o', h'.get? b = some o')
    (tups : ∀ b xs, H b = some (.tup xs) → H' b = some (.tup xs)) (frzs : ∀ b o u, H b = some (.frz o u) → H' b = some (.frz o u)) (tbls : ∀ b ps, H b = some (.tbl ps) → ∃ more, H' b = some (.tbl (ps ++ more)))
    (ns : ∀ m, s.heap.Ns X.env.locals m → h'.Ns X.env.locals m) (hok : HOk X.prog X.w H' h') (hg : AllBare g') :
    Inv X pins σ H' { s with heap := h', gens := g', drawn := d', toks := t' } := by
  have neL : ∀ b o, X.s₀.heap.get? b = some o → b ≠ X.env.locals := fun b o e => Nat.ne_of_lt (Nat.lt_of_lt_of_le (Heap.lt_size e) I.ok.above)
  have neC : ∀ b o, X.s₀.heap.get? b = some o → b ∉ X.ex → b ∉ ch := fun b o e hx hb => by
    rcases (hch b hb).1 with z | z
    · exact hx z
    · exact absurd (Nat.lt_of_lt_of_le (Heap.lt_size e) z) (Nat.lt_irrefl _)
  have cellK : ∀ x c, X.env.cells.lookup x = some c → ∀ v, s.heap.IsCell c v → h'.IsCell c v := fun x c e v ⟨o, ho, hd⟩ => by
    have nch : c ∉ ch := fun z => (hch c z).2.2.1 x c e rfl
    by_cases hc : c ∈ X.fs
    · obtain ⟨sl, q⟩ := slot c o (I.cne x c e) hc nch ho (I.freeC x c e)
      exact ⟨_, q, hd⟩
    · exact ⟨o, keep c o (I.cne x c e) hc nch ho (I.freeC x c e), hd⟩
  refine ⟨I.ok, I.os, hg, ⟨fun b o e n hb hx => ?_, fun b o e n hb hx => ?_, fun b o e n hx => ?_, fun b o e hx => ?_, fun b xs e => tups b xs (I.base.tups b xs e), fun b o xs e => frzs b o xs (I.base.frzs b o xs e), fun b ps e => ?_⟩, ?_, fun x c e => ?_, ?_, fun x c e => ?_, fun p hp => ?_, hok, I.len⟩
  · exact keep b o (neL b o e) hb (neC b o e hx) (I.base.keep b o e n hb hx) (I.base.free b o e n hx)
  · obtain ⟨sl, e1⟩ := I.base.slot b o e n hb hx
    obtain ⟨sl', e2⟩ := slot b _ (neL b o e) hb (neC b o e hx) e1 (I.base.free b o e n hx)
    exact ⟨sl', e2⟩
  · obtain ⟨o', e1⟩ := I.base.there b o e hx
    exact free b o' (neC b o e hx) e1 (I.base.free b o e n hx)
  · obtain ⟨o', e1⟩ := I.base.there b o e hx
    exact there b o' (neC b o e hx) e1
  · obtain ⟨m1, e1⟩ := I.base.tbls b ps e
    obtain ⟨m2, e2⟩ := tbls b _ e1
    exact ⟨m1 ++ m2, by rw [e2, Array.append_assoc]⟩
  · obtain ⟨m, hn, hl⟩ := I.loc
    refine ⟨m, ns m hn, fun i x v e1 e2 e3 => ?_⟩
    obtain ⟨u, r, l⟩ := hl i x v e1 e2 e3
    refine ⟨u, r, ?_⟩
    rcases l with l | ⟨k, c, e, z⟩
    · exact .inl l
    · exact .inr ⟨k, c, e, cellK x c e _ z⟩
  · obtain ⟨v, z⟩ := I.cell x c e
    exact ⟨v, cellK x c e v z⟩
  · obtain ⟨m, ⟨o, _, _, ho, _⟩, _⟩ := I.loc
    exact free _ o (fun z => (hch _ z).2.1 rfl) ho I.free
  · obtain ⟨v, o, ho, hd⟩ := I.cell x c e
    exact free c o (fun z => (hch c z).2.2.1 x c e rfl) ho (I.freeC x c e)
  · obtain ⟨e, n, ne, nf, d⟩ := I.pin p hp
    have nch : p.1 ∉ ch := fun z => (hch p.1 z).2.2.2 p hp rfl
    exact ⟨keep p.1 p.2 ne nf nch e n, free p.1 p.2 nch e n, ne, nf, d⟩
theorem Inv.un {t' : Nat} (I : Inv X pins σ H s) (u : Un X.fs [] H H' s.heap h') (hok : HOk X.prog X.w H' h') : Inv X pins σ H' { s with heap := h', toks := t' } := by
  obtain ⟨m, ⟨o, es, ep, ho, r⟩, _⟩ := id I.loc
  obtain ⟨sl, hL⟩ := u.any ho I.free (by simp)
  exact I.step (g' := s.gens) (d' := s.drawn) (ch := []) (fun _ z => nomatch z) (fun b o _ hb _ e n => u.keep b o e n hb (by simp)) (fun b o _ hb _ e n => u.slot b o e n hb (by simp)) (fun b o _ e n => u.free b o e n (by simp)) (fun b o _ e => u.there b o e (by simp)) u.tups u.frzs u.tbls (fun m' hm => by
    obtain ⟨o', es', ep', ho', r'⟩ := hm
    rw [ho] at ho'; cases ho'
    exact ⟨_, es', ep', hL, r'⟩) hok I.bare
theorem Inv.call {g' : Array GenState} {t' : Nat} {d' : Drawn} {ch : List Addr} (I : Inv X pins σ H s) (u : Un (frs X.stack) ch H H' s.heap h') (hok : HOk X.prog X.w H' h') (hg : AllBare g')
    (hch : ∀ b ∈ ch, (b ∈ X.ex ∨ X.s₀.heap.objs.size ≤ b) ∧ b ≠ X.env.locals ∧ (∀ x c, X.env.cells.lookup x = some c → c ≠ b) ∧ ∀ p ∈ X.pn ++ pins, p.1 ≠ b) :
    Inv X pins σ H' { s with heap := h', gens := g', drawn := d', toks := t' } := by
  obtain ⟨m, ⟨o, es, ep, ho, r⟩, _⟩ := id I.loc
  obtain ⟨sl, hL⟩ := u.any ho I.free fun z => (hch _ z).2.1 rfl
  exact I.step (ch := ch) hch (fun b o hL hb hc e n => u.keep b o e n (fun z => (List.mem_cons.mp (I.stkSub b z)).elim hL hb) hc) (fun b o _ _ hc e n => u.any e n hc) (fun b o hc e n => u.free b o e n hc) (fun b o hc e => u.there b o e hc) u.tups u.frzs u.tbls (fun m' hm => by
    obtain ⟨o', es', ep', ho', r'⟩ := hm
    rw [ho] at ho'; cases ho'
    exact ⟨_, es', ep', hL, r'⟩) hok hg
theorem Inv.turned {t' : Nat} {it : Addr} (I : Inv X pins σ H s) (k : ∀ b o, b ≠ it → s.heap.get? b = some o → h'.get? b = some o) (hn : H it = none) (hL : it ≠ X.env.locals)
    (h1 : it ∈ X.ex ∨ X.s₀.heap.objs.size ≤ it) (h2 : ∀ x c, X.env.cells.lookup x = some c → c ≠ it) (h3 : ∀ p ∈ X.pn ++ pins, p.1 ≠ it) : Inv X pins σ H { s with heap := h', toks := t' } := by
  have nit : ∀ b u, H b = some u → b ≠ it := fun b u e z => by rw [z, hn] at e; cases e
  refine I.step (g' := s.gens) (d' := s.drawn) (ch := [it]) (fun b hb => ?_) (fun b o _ _ hc e _ => k b o (fun z => hc (by simp [z])) e) (fun b o _ _ hc e _ => ⟨o.slots, k b o (fun z => hc (by simp [z])) e⟩) (fun _ _ _ _ n => n)
    (fun b o hc e => ⟨o, k b o (fun z => hc (by simp [z])) e⟩) (fun _ _ e => e) (fun _ _ _ e => e) (fun b ps e => ⟨#[], by rw [e]; simp⟩) (fun m hm => ?_) (fun b u e => ?_) I.bare
  · have e : b = it := by simpa using hb
    subst e
    exact ⟨h1, hL, h2, h3⟩
  · obtain ⟨o, es, ep, ho, r⟩ := hm
    exact ⟨o, es, ep, k _ o (Ne.symm hL) ho, r⟩
  · refine (I.hok b u e).stay (fun c v hc q => k c v ?_ q) (fun _ q => q) fun _ _ q => q
    rcases hc with z | z
    · rw [z]; exact nit b u e
    · exact nit c _ z
theorem Inv.tok (I : Inv X pins σ H s) (t : Nat) : Inv X pins σ H { s with toks := t } := I.un (h' := s.heap) (t' := t) Un.refl I.hok
theorem Inv.kept {t' : Nat} (I : Inv X pins σ H s) (k : ∀ b u, s.heap.get? b = some u → h'.get? b = some u) : Inv X pins σ H { s with heap := h', toks := t' } := I.un (Un.kept k) (I.hok.kept k)
theorem Inv.laid {a : Addr} {o : HO} {t' : Nat} (I : Inv X pins σ H s) (k : ∀ b u, s.heap.get? b = some u → h'.get? b = some u) (hp : s.heap.objs.size ≤ a) (new : ObjOk X.prog X.w (upd H a o) h' a o) :
    Inv X pins σ (upd H a o) { s with heap := h', toks := t' } := I.un (Un.laid k hp (I.hok.fresh hp)) (I.hok.laid k hp new)
theorem Inv.write {x e : Addr} {o : HO} {t' : Nat} (I : Inv X pins σ H s) (mu : Mut (H x)) (he : e = x ∨ H e = some (.own x)) (k : ∀ b u, b ≠ e → s.heap.get? b = some u → h'.get? b = some u) (heo : ∃ u, h'.get? e = some u)
    (new : ObjOk X.prog X.w (upd H x o) h' x o) : Inv X pins σ (upd H x o) { s with heap := h', toks := t' } := I.un (Un.write mu he k heo) (I.hok.write mu he k heo new)
theorem Inv.pins_of {pins' : List (Addr × Obj)} (I : Inv X pins σ H s) (h : ∀ p ∈ pins', s.heap.get? p.1 = some p.2 ∧ H p.1 = none ∧ p.1 ≠ X.env.locals ∧ p.1 ∉ X.fs ∧ ∀ v, p.2.data ≠ .cell v) : Inv X pins' σ H s :=
  ⟨I.ok, I.os, I.bare, I.base, I.loc, I.cell, I.free, I.freeC, fun p hp => (List.mem_append.mp hp).elim (fun z => I.pin p (List.mem_append_left _ z)) (h p), I.hok, I.len⟩

theorem nodup_ix {N : List Str} (hN : N.Nodup) {i j : Nat} {x : Str} (a : N[i]? = some x) (b : N[j]? = some x) : i = j := by
  obtain ⟨h1, e1⟩ := List.getElem?_eq_some_iff.mp a
  obtain ⟨h2, e2⟩ := List.getElem?_eq_some_iff.mp b
  exact (List.getElem_inj hN).mp (e1.trans e2.symm)

theorem store_ok2 {M : Model} {A : Around} {E : Value → Shared → Prop} {i : Nat} {x : Str} {v : V} {u : Value} {Q : Unit → Shared → Prop} (I : Inv X pins σ H s) (hN : X.N.Nodup) (hi : X.N[i]? = some x) (hx : Loc X.env.scope x) (r : RelV v u)
    (h : ∀ s', Inv X pins (σ.set i (some v)) H s' → (∃ a, Heap.SameBut a s.heap s'.heap ∧ (a = X.env.locals ∨ X.env.cells.lookup x = some a)) → Q () s') (hf : X.fn x = true ∨ X.env.scope.names.lookup x = some .local := by first | exact .inl rfl | exact .inr rfl | assumption) : wpAny M A (storeName X.env x u) Q E s := by
  obtain ⟨m, hn, hl⟩ := id I.loc
  have hcls : (X.env.scope.kind == .class || (X.env.scope.kind == .module && X.env.locals != X.env.globals)) = false := by rw [I.ok.kind]; rfl
  have hiσ : i < σ.length := by rw [I.len]; exact (List.getElem?_eq_some_iff.mp hi).1
  have cne := I.cne
  have tracked : ∀ {a : Addr} {h' : Heap}, (∃ o, s.heap.get? a = some o ∧ H a = none) → Heap.SameBut a s.heap h' → HOk X.prog X.w H h' := fun {a h'} ha hs b ob e => by
    obtain ⟨_, _, hfree⟩ := ha
    refine (I.hok b ob e).stay (fun c w' hc q => (hs.2 c ?_).trans q) (fun _ q => q) fun _ _ q => q
    rintro rfl
    rcases hc with rfl | hc
    · rw [hfree] at e; cases e
    · rw [hfree] at hc; cases hc
  rcases hx with hk | hk
  · refine wpAny_storeName_local hk hn (fun h' hn' hs => ?_) hcls
    obtain ⟨oL, _, _, hoL, _⟩ := id hn
    refine h _ ⟨I.ok, I.os, I.bare, ⟨fun b o e n hb hx => ?_, fun b o e n hb hx => ?_, I.base.free, fun b o e hx => ?_, I.base.tups, I.base.frzs, I.base.tbls⟩, ⟨_, hn', fun j y v' e1 e2 e3 => ?_⟩, fun y c e => ?_, I.free, I.freeC, fun p hp => ?_, tracked ⟨oL, hoL, I.free⟩ hs, by simpa using I.len⟩ ⟨_, hs, .inl rfl⟩
    · exact (hs.2 b (Nat.ne_of_lt (Nat.lt_of_lt_of_le (Heap.lt_size e) I.ok.above))).trans (I.base.keep b o e n hb hx)
    · obtain ⟨sl, e1⟩ := I.base.slot b o e n hb hx
      exact ⟨sl, (hs.2 b (Nat.ne_of_lt (Nat.lt_of_lt_of_le (Heap.lt_size e) I.ok.above))).trans e1⟩
    · obtain ⟨o', e1⟩ := I.base.there b o e hx
      exact ⟨o', (hs.2 b (Nat.ne_of_lt (Nat.lt_of_lt_of_le (Heap.lt_size e) I.ok.above))).trans e1⟩
    · by_cases hj : j = i
      · subst hj
        rw [hi] at e1; cases e1
        rw [List.getElem?_set_self hiσ] at e2
        cases e2
        exact ⟨u, r, .inl ⟨hk, by simp⟩⟩
      · rw [List.getElem?_set_ne (Ne.symm hj)] at e2
        obtain ⟨u', r', q⟩ := hl j y v' e1 e2 e3
        refine ⟨u', r', ?_⟩
        rcases q with ⟨k, e⟩ | ⟨k, c, e, z⟩
        · refine .inl ⟨k, ?_⟩
          have : y ≠ x := fun e => hj (nodup_ix hN e1 (e ▸ hi))
          simp [this, e]
        · exact .inr ⟨k, c, e, z.sameBut hs (cne y c e)⟩
    · obtain ⟨w', z⟩ := I.cell y c e
      exact ⟨w', z.sameBut hs (cne y c e)⟩
    · obtain ⟨e, n, ne, nf, d⟩ := I.pin p hp
      exact ⟨(hs.2 p.1 ne).trans e, n, ne, nf, d⟩
  · have hfn : X.fn x = true := by
      rcases hf with z | z
      · exact z
      · rw [z] at hk; cases hk
    obtain ⟨c, hc⟩ := I.ok.has x (.inl hk)
    obtain ⟨w', z⟩ := I.cell x c hc
    refine wpAny_storeName_cell I.ok.kind hk hc z (fun h' hc' hs => ?_)
    obtain ⟨oc, hoc, hocd⟩ := id z
    refine h { s with heap := h' } ⟨I.ok, I.os, I.bare, ⟨fun b o e n hb hx => ?_, fun b o e n hb hx => ?_, I.base.free, fun b o e hx => ?_, I.base.tups, I.base.frzs, I.base.tbls⟩, ⟨m, hn.sameBut hs (Ne.symm (cne x c hc)), fun j y v' e1 e2 e3 => ?_⟩, fun y c' e => ?_, I.free, I.freeC, fun p hp => ?_, tracked ⟨oc, hoc, I.freeC x c hc⟩ hs, by simpa using I.len⟩ ⟨c, hs, .inr hc⟩
    · exact (hs.2 b (Nat.ne_of_lt (Nat.lt_of_lt_of_le (Heap.lt_size e) (I.ok.cab x c hfn hc)))).trans (I.base.keep b o e n hb hx)
    · obtain ⟨sl, e1⟩ := I.base.slot b o e n hb hx
      exact ⟨sl, (hs.2 b (Nat.ne_of_lt (Nat.lt_of_lt_of_le (Heap.lt_size e) (I.ok.cab x c hfn hc)))).trans e1⟩
    · obtain ⟨o', e1⟩ := I.base.there b o e hx
      exact ⟨o', (hs.2 b (Nat.ne_of_lt (Nat.lt_of_lt_of_le (Heap.lt_size e) (I.ok.cab x c hfn hc)))).trans e1⟩
    · by_cases hj : j = i
      · subst hj
        rw [hi] at e1; cases e1
        rw [List.getElem?_set_self hiσ] at e2
        cases e2
        exact ⟨u, r, .inr ⟨.inl hk, c, hc, hc'⟩⟩
      · rw [List.getElem?_set_ne (Ne.symm hj)] at e2
        obtain ⟨u', r', q⟩ := hl j y v' e1 e2 e3
        refine ⟨u', r', ?_⟩
        rcases q with q | ⟨k, c', e, z'⟩
        · exact .inl q
        · refine .inr ⟨k, c', e, z'.sameBut hs ?_⟩
          rintro rfl
          exact hj (nodup_ix hN e1 (I.ok.inj _ _ _ e hc ▸ hi))
    · by_cases hcc : c' = c
      · subst hcc; exact ⟨_, hc'⟩
      · obtain ⟨w2, z2⟩ := I.cell y c' e
        exact ⟨w2, z2.sameBut hs hcc⟩
    · obtain ⟨e, n, ne, nf, d⟩ := I.pin p hp
      refine ⟨(hs.2 p.1 ?_).trans e, n, ne, nf, d⟩
      intro q
      rw [q, hoc] at e
      have q' : oc = p.2 := Option.some.inj e
      exact d w' (by rw [← q']; exact hocd)
theorem store_ok {M : Model} {A : Around} {E : Value → Shared → Prop} {i : Nat} {x : Str} {v : V} {u : Value} {Q : Unit → Shared → Prop} (I : Inv X pins σ H s) (hN : X.N.Nodup) (hi : X.N[i]? = some x) (hx : Loc X.env.scope x) (r : RelV v u)
    (h : ∀ s', Inv X pins (σ.set i (some v)) H s' → Q () s') (hf : X.fn x = true ∨ X.env.scope.names.lookup x = some .local := by first | exact .inl rfl | exact .inr rfl | assumption) : wpAny M A (storeName X.env x u) Q E s :=
  store_ok2 I hN hi hx r (fun s' I' _ => h s' I') hf
theorem Inv.call' {s' : Shared} {ch : List Addr} (I : Inv X pins σ H s) (ho : s'.os = s.os) (u : Un (frs X.stack) ch H H' s.heap s'.heap) (hok : HOk X.prog X.w H' s'.heap) (hg : AllBare s'.gens)
    (hch : ∀ b ∈ ch, (b ∈ X.ex ∨ X.s₀.heap.objs.size ≤ b) ∧ b ≠ X.env.locals ∧ (∀ x c, X.env.cells.lookup x = some c → c ≠ b) ∧ ∀ p ∈ X.pn ++ pins, p.1 ≠ b) : Inv X pins σ H' s' := by
  obtain ⟨h', g', d', t', o'⟩ := s'
  have e : o' = s.os := ho
  subst e
  exact I.call (g' := g') (t' := t') (d' := d') u hok hg hch
end

abbrev XK := Value → Option Addr → Hp → Prop
abbrev St := List (Option V)
abbrev VK := V → Hp → Prop
abbrev TE := St → Hp → VK → Prop
abbrev TT := St → Hp → (Bool → Hp → Prop) → Prop
abbrev TA := St → Hp → (List V → Hp → Prop) → Prop
structure Ends where
  nx : St → Hp → Prop
  rt : VK
  bk : St → Hp → Prop := fun _ _ => False
  ct : St → Hp → Prop := fun _ _ => False
abbrev TS := Ends → St → Hp → Prop

def EP (X : Cx) (pins : List (Addr × Obj)) (σ : St) (Q : VK) (u : Value) (s' : Shared) : Prop := ∃ v H', Inv X pins σ H' s' ∧ RelV v u ∧ Q v H'
def TP (X : Cx) (pins : List (Addr × Obj)) (σ : St) (Q : Bool → Hp → Prop) (b : Bool) (s' : Shared) : Prop := ∃ H', Inv X pins σ H' s' ∧ Q b H'
def AP (X : Cx) (pins : List (Addr × Obj)) (σ : St) (Q : List V → Hp → Prop) (us : List Value) (s' : Shared) : Prop := ∃ vs H', Inv X pins σ H' s' ∧ Vals vs us ∧ Q vs H'
def SP (X : Cx) (pins : List (Addr × Obj)) (D : Ends) (f : Flow) (s' : Shared) : Prop :=
  match f with
  | .next => ∃ σ' H', Inv X pins σ' H' s' ∧ D.nx σ' H'
  | .brk => ∃ σ' H', Inv X pins σ' H' s' ∧ D.bk σ' H'
  | .cont => ∃ σ' H', Inv X pins σ' H' s' ∧ D.ct σ' H'
  | .ret u => ∃ v σ' H', Inv X pins σ' H' s' ∧ RelV v u ∧ D.rt v H'

def PE (X : Cx) (e : Expr) (t : TE) : Prop :=
  ∀ (pins : List (Addr × Obj)) (s : Shared) (σ : St) (H : Hp) (Q : VK), Inv X pins σ H s → t σ H Q → wpAny (model X.prog X.w) X.A (eval e X.env) (EP X pins σ Q) X.xe s
def PT (X : Cx) (e : Expr) (t : TT) : Prop :=
  ∀ (pins : List (Addr × Obj)) (s : Shared) (σ : St) (H : Hp) (Q : Bool → Hp → Prop), Inv X pins σ H s → t σ H Q → wpAny (model X.prog X.w) X.A (isTrue e X.env (eval e X.env)) (TP X pins σ Q) X.xe s
def PW (X : Cx) (e : Expr) (t : TT) : Prop :=
  ∀ (whole : Sem Value) (pins : List (Addr × Obj)) (s : Shared) (σ : St) (H : Hp) (Q : Bool → Hp → Prop), Inv X pins σ H s → t σ H Q → wpAny (model X.prog X.w) X.A (isTrue e X.env whole) (TP X pins σ Q) X.xe s
theorem PW.pt {X : Cx} {e : Expr} {t : TT} (h : PW X e t) : PT X e t := h _
def PA (X : Cx) (es : List Expr) (t : TA) : Prop :=
  ∀ (pos : Pos) (pins : List (Addr × Obj)) (s : Shared) (σ : St) (H : Hp) (Q : List V → Hp → Prop), Inv X pins σ H s → t σ H Q → wpAny (model X.prog X.w) X.A (spliced (backTo pos (starEach es X.env))) (AP X pins σ Q) X.xe s
def PS (X : Cx) (st : Stmt) (t : TS) : Prop :=
  ∀ (pins : List (Addr × Obj)) (s : Shared) (σ : St) (H : Hp) (D : Ends), Inv X pins σ H s → t D σ H → wpAny (model X.prog X.w) X.A (exec st X.env) (SP X pins D) X.xe s
def PSs (X : Cx) (st : List Stmt) (t : TS) : Prop :=
  ∀ (pins : List (Addr × Obj)) (s : Shared) (σ : St) (H : Hp) (D : Ends), Inv X pins σ H s → t D σ H → wpAny (model X.prog X.w) X.A (execs st X.env) (SP X pins D) X.xe s
theorem thn {α : Type} {t : Sem α} {Q Q' : α → Shared → Prop} {M : Model} {A : Around} {E : Value → Shared → Prop} {s : Shared} (h : wpAny M A t Q E s) (hQ : ∀ a s, Q a s → Q' a s) : wpAny M A t Q' E s := wpAny_mono h hQ fun _ _ x => x
end L2

namespace L2
open PySem PySem.Spec PyProof.Rows
section
variable {X : Cx}

def tVar (i : Nat) : TE := fun σ H Q => ∃ v, σ[i]? = some (some v) ∧ Q v H
abbrev tC (v : V) : TE := fun _ H Q => Q v H
theorem pe_var {i : Nat} {x : Str} {pos : Pos} (hN : X.N[i]? = some x) (hv : Vis X.env.scope x) (hd : (x == ("__debug__" : Str)) = false := by decide) (hcd : (x == ("__classdict__" : Str)) = false := by decide) : PE X (.Name x pos) (tVar i) := by
  intro pins s σ H Q I h
  obtain ⟨v, e, h⟩ := h
  obtain ⟨m, hn, hl⟩ := I.loc
  obtain ⟨u, r, l⟩ := hl i x v hN e hv
  have fin : EP X pins σ Q u s := ⟨v, H, I, r, h⟩
  rcases l with ⟨hk, hm⟩ | ⟨hk, c, hc, hcell⟩
  · exact wpAny_Name (wpAny_loadName_local I.ok.kind hk hn hm fin) hd
  · rcases hk with hk | hk
    · exact wpAny_Name (wpAny_loadName_cell I.ok.kind hk hc hcell fin) hd
    · exact wpAny_Name (wpAny_loadName_free I.ok.kind hk hc hcell fin hcd) hd
theorem pe_int {i j pos} : PE X (.Constant (.int i) j pos) (tC (.int i)) := fun _ _ _ H _ I h => wpAny_Constant_int ⟨.int i, H, I.tok _, ⟨_, rfl⟩, h⟩
theorem pe_bl {b j pos} : PE X (.Constant (.bool b) j pos) (tC (.bl b)) := fun _ _ _ H _ I h => Constant_bool ⟨.bl b, H, I, rfl, h⟩
theorem pe_non {j pos} : PE X (.Constant .none j pos) (tC .non) := fun _ _ _ H _ I h => Constant_none ⟨.non, H, I, rfl, h⟩
def Gl (X : Cx) (x : Str) : Prop := X.env.kindOf x = some .globalImplicit
theorem ld_glob {E : Value → Shared → Prop} {pins : List (Addr × Obj)} {s : Shared} {σ : St} {H : Hp} {x : Str} {u : Value} {pos : Pos} {Q : Value → Shared → Prop} (I : Inv X pins σ H s) (hg : Gl X x) (hm : X.mg x = some u) (h : Q u s)
    (hd : (x == ("__debug__" : Str)) = false := by decide) : wpAny (model X.prog X.w) X.A (eval (.Name x pos) X.env) Q E s :=
  Calls.Name_function_global I.ok.kind hg (Calls.loadGlobal_global (by rw [I.ok.glob]; exact I.mod.glob.keeps I.bk) hm h) hd
theorem ld_blt {E : Value → Shared → Prop} {pins : List (Addr × Obj)} {s : Shared} {σ : St} {H : Hp} {x : Str} {u : Value} {pos : Pos} {Q : Value → Shared → Prop} (I : Inv X pins σ H s) (hg : Gl X x) (hm : X.mg x = none) (hv : bootBuiltins x = some u) (h : Q u s)
    (hn : x ≠ "__name__" := by decide) (hd : (x == ("__debug__" : Str)) = false := by decide) : wpAny (model X.prog X.w) X.A (eval (.Name x pos) X.env) Q E s := by
  obtain ⟨mb, h1, h2⟩ := I.mod.blt
  exact Calls.Name_function_global I.ok.kind hg (Calls.loadGlobal_builtin (by rw [I.ok.glob]; exact I.mod.glob.keeps I.bk) hm (by rw [I.ok.blt]; exact h1.keeps I.bk) ((h2 x hn).trans hv) h) hd
theorem pe_glob {x : Str} {v : V} {u : Value} {pos : Pos} (hg : Gl X x) (hm : X.mg x = some u) (r : RelV v u) (hd : (x == ("__debug__" : Str)) = false := by decide) : PE X (.Name x pos) (tC v) :=
  fun _ _ _ H _ I h => ld_glob I hg hm ⟨v, H, I, r, h⟩ hd
theorem pe_bltn {x : Str} {v : V} {u : Value} {pos : Pos} (hg : Gl X x) (hm : X.mg x = none) (hv : bootBuiltins x = some u) (r : RelV v u) (hn : x ≠ "__name__" := by decide) (hd : (x == ("__debug__" : Str)) = false := by decide) : PE X (.Name x pos) (tC v) :=
  fun _ _ _ H _ I h => ld_blt I hg hm hv ⟨v, H, I, r, h⟩ hn hd

variable {a b : Expr} {ta tb : TE} {pos : Pos}
def PC (X : Cx) (op : CmpOp) (a b : Expr) (t : TE) : Prop :=
  ∀ (pins : List (Addr × Obj)) (s : Shared) (σ : St) (H : Hp) (Q : VK), Inv X pins σ H s → t σ H Q →
    wpAny (model X.prog X.w) X.A (eval a X.env) (fun v s₁ => wpAny (model X.prog X.w) X.A (eval b X.env) (fun u s₂ => wpAny (model X.prog X.w) X.A (compareOp op v u) (EP X pins σ Q) X.xe s₂) X.xe s₁) X.xe s
theorem nobehind (b : Expr) {op : CmpOp} (h : op ≠ .In) (h2 : op ≠ .NotIn) : behindInMarks op b = false := by
  have e1 : (op == CmpOp.In) = false := by cases op <;> first | rfl | exact absurd rfl h
  have e2 : (op == CmpOp.NotIn) = false := by cases op <;> first | rfl | exact absurd rfl h2
  cases b <;> simp [behindInMarks, e1, e2]
def tB (t : TE) : TT := fun σ H Q => t σ H fun x H1 => ∃ c, x = .bl c ∧ Q c H1
theorem pt_cmp {op : CmpOp} {t : TE} (h : PC X op a b t) (h1 : behindInMarks op b = false := by first | exact nobehind _ (by decide) (by decide) | rfl) : PT X (.Compare a [op] [b] pos) (tB t) := by
  intro pins s σ H Q I hw
  refine wpAny_isTrue_Compare1 (thn (h pins s σ H _ I hw) fun v s1 h1 => thn h1 fun u s2 h2 => thn h2 fun c s3 hx9 => ?_) h1
  obtain ⟨x, H1, I1, r1, q1⟩ := hx9
  obtain ⟨d, rfl, q⟩ := q1
  cases r1
  exact wpAny_truthy_bool ⟨H1, I1, q⟩
theorem pt_val {e : Expr} {t : TE} (h : PE X e t) (he : ∀ whole, isTrue e X.env whole = (do let v ← whole; standAt e.pos; holding [v] (truthy v)) := by intro _; rfl) : PT X e (tB t) := by
  intro pins s σ H Q I hw
  refine isTrue_plain (thn (h pins s σ H _ I hw) fun v s1 hx9 => ?_) (he _)
  obtain ⟨x, H1, I1, r1, q1⟩ := hx9
  obtain ⟨d, rfl, q⟩ := q1
  cases r1
  exact wpAny_truthy_bool ⟨H1, I1, q⟩

variable {tA tB' : TT} {rest : List Expr}
def tOr (t u : TT) : TT := fun σ H Q => t σ H fun c H1 => if c = true then Q true H1 else u σ H1 Q
def tNot (t : TT) : TT := fun σ H Q => t σ H fun c H1 => Q (!c) H1
theorem pw_or1 (ha : PT X a tA) : PW X (.BoolOp .Or [a] pos) tA := by
  intro wh pins s σ H Q I h
  refine isTrue_or (thn (ha pins s σ H Q I h) fun c s1 e => ?_)
  cases c with
  | false => exact isTrue_or_nil e
  | true => exact e
theorem pw_or (ha : PT X a tA) (hb : PW X (.BoolOp .Or (b :: rest) pos) tB') : PW X (.BoolOp .Or (a :: b :: rest) pos) (tOr tA tB') := by
  intro wh pins s σ H Q I h
  refine isTrue_or (thn (ha pins s σ H _ I h) fun c s1 hx9 => ?_)
  obtain ⟨H1, I1, q1⟩ := hx9
  cases c with
  | true => exact ⟨H1, I1, q1⟩
  | false => exact hb wh pins s1 σ H1 Q I1 q1
theorem pt_not (ha : PT X a tA) : PT X (.UnaryOp .Not a pos) (tNot tA) := by
  intro pins s σ H Q I h
  exact isTrue_not (ha pins s σ H (fun c H1 => Q (!c) H1) I h)
def tAndV (ta tb : TE) : TE := fun σ H Q => ta σ H fun x H1 => ∃ c, x = .bl c ∧ if c = true then tb σ H1 Q else Q (.bl false) H1
def tNotV (ta : TE) : TE := fun σ H Q => ta σ H fun x H1 => ∃ c, x = .bl c ∧ Q (.bl (!c)) H1
theorem pe_one {op} {t : TE} (h : PE X a t) : PE X (.BoolOp op [a] pos) t := fun pins s σ H Q I hw => BoolOp_one (h pins s σ H Q I hw)
theorem pe_and (ha : PE X a ta) (hb : PE X (.BoolOp .And (b :: rest) pos) tb) : PE X (.BoolOp .And (a :: b :: rest) pos) (tAndV ta tb) := by
  intro pins s σ H Q I h
  refine BoolOp_and (thn (ha pins s σ H _ I h) fun v s1 hx9 => ?_)
  obtain ⟨x, H1, I1, r1, q1⟩ := hx9
  obtain ⟨c, rfl, q1⟩ := q1
  cases r1
  refine wpAny_truthy_bool ?_
  cases c with
  | true => exact hb pins s1 σ H1 Q I1 q1
  | false => exact ⟨.bl false, H1, I1, rfl, q1⟩
theorem pe_not (ha : PE X a ta) : PE X (.UnaryOp .Not a pos) (tNotV ta) := by
  intro pins s σ H Q I h
  refine UnaryOp_ (thn (ha pins s σ H _ I h) fun v s1 hx9 => ?_)
  obtain ⟨x, H1, I1, r1, q1⟩ := hx9
  obtain ⟨c, rfl, q1⟩ := q1
  cases r1
  exact not_of (wpAny_truthy_bool ⟨.bl (!c), H1, I1, rfl, q1⟩)
def tIf (t : TT) (ta tb : TE) : TE := fun σ H Q => t σ H fun c H1 => if c = true then ta σ H1 Q else tb σ H1 Q
theorem pe_ifExp {c : Expr} (hc : PT X c tA) (ha : PE X a ta) (hb : PE X b tb) : PE X (.IfExp c a b pos) (tIf tA ta tb) := by
  intro pins s σ H Q I h
  refine wpAny_IfExp (thn (hc pins s σ H _ I h) fun d s1 hx9 => ?_)
  obtain ⟨H1, I1, q1⟩ := hx9
  cases d with
  | true => exact ha pins s1 σ H1 Q I1 q1
  | false => exact hb pins s1 σ H1 Q I1 q1
end
end L2

namespace L2
open PySem PySem.Spec PyProof.Rows

def SqL (K : PySem.W.Frag) (H : Hp) (a : Addr) (xs : List V) : Prop :=
  Rd H a (.lst xs) ∨
    ∃ (o : Obj) (its : Array Value) (n : Nat), K.lookup a = some o ∧ o.cls = .type "list" ∧ o.dict = none ∧ o.data = .seq its n ∧ its.size ≤ sizeLine ∧ Vals xs its.toList
def SqT (K : PySem.W.Frag) (H : Hp) (a : Addr) (xs : List V) : Prop :=
  Rd H a (.tup xs) ∨
    ∃ (o : Obj) (its : Array Value) (n : Nat), K.lookup a = some o ∧ o.cls = .type "tuple" ∧ o.dict = none ∧ o.data = .seq its n ∧ its.size ≤ sizeLine ∧ Vals xs its.toList
def absV : Value → Option V
  | .none => some .non
  | .bool b => some (.bl b)
  | .int i _ => some (.int i)
  | .str x _ => some (.str x)
  | .bytes b _ => some (.byt b)
  | .float b _ => some (.flt b)
  | .ref a => some (.ref a)
  | .type n => some (.ty n)
  | _ => none
theorem RelV.abs {x : V} {u : Value} (r : RelV x u) : absV u = some x := by
  cases x with
  | non => cases r; rfl
  | bl _ => cases r; rfl
  | int _ => obtain ⟨t, rfl⟩ := r; rfl
  | str _ => obtain ⟨t, rfl⟩ := r; rfl
  | byt _ => obtain ⟨t, rfl⟩ := r; rfl
  | flt _ => obtain ⟨t, rfl⟩ := r; rfl
  | ref _ => cases r; rfl
  | ty _ => cases r; rfl
theorem RelV.inj {x y : V} {u : Value} (r : RelV x u) (q : RelV y u) : x = y := Option.some.inj (r.abs.symm.trans q.abs)
theorem Vals.inj : ∀ {xs ys : List V} {us : List Value}, Vals xs us → Vals ys us → xs = ys
  := by
  intro xs ys us h
  induction h generalizing ys with
  | nil => intro q; cases q; rfl
  | cons r t ih => intro q; cases q with | cons r' t' => rw [r.inj r', ih t']
section
variable {X : Cx} {pins : List (Addr × Obj)} {σ : St} {H : Hp} {s : Shared} {a : Addr} {xs ys : List V}
theorem SqL.of {K : PySem.W.Frag} (h : H a = some (.lst xs)) : SqL K H a xs := .inl (.inl h)
theorem SqT.of {K : PySem.W.Frag} (h : H a = some (.tup xs)) : SqT K H a xs := .inl (.inl h)
theorem Inv.list (I : Inv X pins σ H s) (h : SqL X.K H a xs) : ∃ its : List Value, Vals xs its ∧ PlainL s.heap a its.toArray ∧ xs.length ≤ sizeLine := by
  rcases h with h | ⟨o, its, n, hk, hc, hd, hs, hz, r⟩
  · obtain ⟨z, its, n, r, e⟩ := h.ok I.hok
    exact ⟨its, r, ⟨_, n, e, rfl, rfl, rfl⟩, z⟩
  · refine ⟨its.toList, r, ⟨o, n, I.kIn a o hk, hc, hd, by simpa using hs⟩, ?_⟩
    have e := r.length
    simp only [Array.length_toList] at e
    omega
theorem Inv.tuple (I : Inv X pins σ H s) (h : SqT X.K H a xs) : ∃ its : List Value, Vals xs its ∧ IsTup s.heap a its.toArray ∧ xs.length ≤ sizeLine := by
  rcases h with h | ⟨o, its, n, hk, hc, _, hs, hz, r⟩
  · obtain ⟨z, its, n, r, p⟩ := h.ok I.hok
    exact ⟨its, r, ⟨_, p, rfl, n, rfl⟩, z⟩
  · refine ⟨its.toList, r, ⟨o, I.kIn a o hk, hc, n, by simpa using hs⟩, ?_⟩
    have e := r.length
    simp only [Array.length_toList] at e
    omega
theorem Inv.list_inj (I : Inv X pins σ H s) (h : SqL X.K H a xs) (h' : SqL X.K H a ys) : xs = ys := by
  obtain ⟨its, r, ⟨o, n, e, _, _, d⟩, _⟩ := I.list h
  obtain ⟨its', r', ⟨o', n', e', _, _, d'⟩, _⟩ := I.list h'
  rw [e] at e'; cases e'
  rw [d] at d'
  injection d' with d1 _
  have : its = its' := by simpa using congrArg Array.toList d1
  subst this
  exact r.inj r'
theorem Inv.tuple_inj (I : Inv X pins σ H s) (h : SqT X.K H a xs) (h' : SqT X.K H a ys) : xs = ys := by
  obtain ⟨its, r, ⟨o, e, _, n, d⟩, _⟩ := I.tuple h
  obtain ⟨its', r', ⟨o', e', _, n', d'⟩, _⟩ := I.tuple h'
  rw [e] at e'; cases e'
  rw [d] at d'
  injection d' with d1 _
  have : its = its' := by simpa using congrArg Array.toList d1
  subst this
  exact r.inj r'
end

abbrev Cx.wish (X : Cx) (E : Value → Shared → Prop) : Cx := { X with xe := E }
abbrev Cx.nox (X : Cx) : Cx := X.wish fun _ _ => False
theorem Cx.Ok.wish {X : Cx} (ok : X.Ok) (E : Value → Shared → Prop) : (X.wish E).Ok :=
  ⟨ok.mod, ok.kind, ok.glob, ok.blt, ok.above, ok.inj, ok.has, ok.cab, ok.hd, ok.frames, ok.stk, ok.exf, ok.bs, ok.bsz, ok.noex, ok.exfs, ok.funs, ok.frf⟩
theorem Cx.Ok.unwish {X : Cx} {E : Value → Shared → Prop} (ok : (X.wish E).Ok) : X.Ok :=
  ⟨ok.mod, ok.kind, ok.glob, ok.blt, ok.above, ok.inj, ok.has, ok.cab, ok.hd, ok.frames, ok.stk, ok.exf, ok.bs, ok.bsz, ok.noex, ok.exfs, ok.funs, ok.frf⟩
section
variable {X : Cx} {pins : List (Addr × Obj)} {σ : St} {H : Hp} {s : Shared} {E : Value → Shared → Prop}
theorem Inv.wish (I : Inv X pins σ H s) (E : Value → Shared → Prop) : Inv (X.wish E) pins σ H s := ⟨I.ok.wish E, I.os, I.bare, I.base, I.loc, I.cell, I.free, I.freeC, I.pin, I.hok, I.len⟩
theorem Inv.unwish (I : Inv (X.wish E) pins σ H s) : Inv X pins σ H s := ⟨I.ok.unwish, I.os, I.bare, I.base, I.loc, I.cell, I.free, I.freeC, I.pin, I.hok, I.len⟩
theorem SP.unwish {D : Ends} {f : Flow} {s' : Shared} (h : SP (X.wish E) pins D f s') : SP X pins D f s' := by
  cases f with
  | next => obtain ⟨σ', H', I, q⟩ := h; exact ⟨σ', H', I.unwish, q⟩
  | brk => obtain ⟨σ', H', I, q⟩ := h; exact ⟨σ', H', I.unwish, q⟩
  | cont => obtain ⟨σ', H', I, q⟩ := h; exact ⟨σ', H', I.unwish, q⟩
  | ret u => obtain ⟨v, σ', H', I, r, q⟩ := h; exact ⟨v, σ', H', I.unwish, r, q⟩
theorem PE.nox {e : Expr} {t : TE} (h : PE X.nox e t) : PE X e t := fun pins s σ H Q I hw =>
  wpAny_mono (h pins s σ H Q (I.wish _) hw) (fun _ _ ⟨v, H', I', r, q⟩ => ⟨v, H', I'.unwish, r, q⟩) fun _ _ z => False.elim z
theorem PT.nox {e : Expr} {t : TT} (h : PT X.nox e t) : PT X e t := fun pins s σ H Q I hw =>
  wpAny_mono (h pins s σ H Q (I.wish _) hw) (fun _ _ ⟨H', I', q⟩ => ⟨H', I'.unwish, q⟩) fun _ _ z => False.elim z
theorem PSs.nox {st : List Stmt} {t : TS} (h : PSs X.nox st t) : PSs X st t := fun pins s σ H D I hw =>
  wpAny_mono (h pins s σ H D (I.wish _) hw) (fun _ _ q => q.unwish) fun _ _ z => False.elim z
end

section
variable {X : Cx} {st : Stmt} {rest : List Stmt} {t u : TS} {e : Expr} {te : TE} {pos : Pos}
def tNext : TS := fun D σ H => D.nx σ H
def tSeq (t u : TS) : TS := fun D σ H => t { D with nx := u D } σ H
theorem pss_nil : PSs X [] tNext := fun _ _ σ H _ I h => wpAny_execs_nil ⟨σ, H, I, h⟩
theorem pss_cons (h1 : PS X st t) (h2 : PSs X rest u) : PSs X (st :: rest) (tSeq t u) := by
  intro pins s σ H D I h
  refine wpAny_execs_cons (thn (h1 pins s σ H { D with nx := u D } I h) fun f s1 q => ?_)
  cases f with
  | next =>
    obtain ⟨σ', H', I', q⟩ := q
    exact h2 pins s1 σ' H' D I' q
  | ret v => exact q
  | brk => exact q
  | cont => exact q
theorem pss_one (h1 : PS X st t) : PSs X [st] t := by
  intro pins s σ H D I h
  refine wpAny_execs_cons (thn (h1 pins s σ H D I h) fun f s1 q => ?_)
  cases f with
  | next => exact wpAny_execs_nil q
  | ret v => exact q
  | brk => exact q
  | cont => exact q
theorem Inv.quiet {pins : List (Addr × Obj)} {σ : St} {H : Hp} {s : Shared} (I : Inv X pins σ H s) : interactive X.env = false := by simp [interactive, I.ok.kind]
def tDrop (te : TE) : TS := fun D σ H => te σ H fun _ H1 => D.nx σ H1
theorem ps_expr (he : PE X e te) (hs : swapsWith e none pos.line X.env = pure false := by rfl) : PS X (.Expr e pos) (tDrop te) := by
  intro pins s σ H D I h
  refine wpAny_Expr_any (thn (he pins s σ H _ I h) fun v s1 hx9 => ?_) I.quiet hs
  obtain ⟨x, H1, I1, r1, q1⟩ := hx9
  exact ⟨σ, H1, I1, q1⟩
def tRet (te : TE) : TS := fun D σ H => te σ H D.rt
theorem ps_ret (he : PE X e te) : PS X (.Return (some e) pos) (tRet te) := by
  intro pins s σ H D I h
  refine wpAny_Return_some (thn (he pins s σ H _ I h) fun v s1 hx9 => ?_)
  obtain ⟨x, H1, I1, r1, q1⟩ := hx9
  exact ⟨x, σ, H1, I1, r1, q1⟩
def tIfS (c : TT) (t u : TS) : TS := fun D σ H => c σ H fun b H1 => if b = true then t D σ H1 else u D σ H1
theorem ps_if {c : Expr} {a b : List Stmt} {tc : TT} (hc : PT X c tc) (ha : PSs X a t) (hb : PSs X b u) : PS X (.If c a b pos) (tIfS tc t u) := by
  intro pins s σ H D I h
  refine wpAny_If (thn (hc pins s σ H _ I h) fun d s1 hx9 => ?_)
  obtain ⟨H1, I1, q1⟩ := hx9
  cases d with
  | true => exact ha pins s1 σ H1 D I1 q1
  | false => exact hb pins s1 σ H1 D I1 q1
def tNever : TS := fun _ _ _ => False
theorem pss_never {sts : List Stmt} : PSs X sts tNever := fun _ _ _ _ _ _ h => h.elim
end

abbrev TG := V → St → Hp → (St → Hp → Prop) → Prop
abbrev TGs := List V → St → Hp → (St → Hp → Prop) → Prop
def PG (X : Cx) (target : Expr) (t : TG) : Prop :=
  ∀ (pins : List (Addr × Obj)) (s : Shared) (σ : St) (H : Hp) (v : V) (u : Value) (Q : St → Hp → Prop), Inv X pins σ H s → RelV v u → t v σ H Q →
    wpAny (model X.prog X.w) X.A (assign target X.env u) (fun _ s' => ∃ σ' H', Inv X pins σ' H' s' ∧ Q σ' H') X.xe s
def PGs (X : Cx) (ts : List Expr) (t : TGs) : Prop :=
  ∀ (pins : List (Addr × Obj)) (s : Shared) (σ : St) (H : Hp) (vs : List V) (us : List Value) (Q : St → Hp → Prop), Inv X pins σ H s → Vals vs us → t vs σ H Q →
    wpAny (model X.prog X.w) X.A (assignInOrder ((assignEach ts X.env).map (·.2)) us) (fun _ s' => ∃ σ' H', Inv X pins σ' H' s' ∧ Q σ' H') X.xe s
abbrev TSet := V → V → V → Hp → (Hp → Prop) → Prop
def PSet (X : Cx) (t : TSet) : Prop :=
  ∀ (pins : List (Addr × Obj)) (s : Shared) (σ : St) (H : Hp) (o i v : V) (ov iv u : Value) (Q : Hp → Prop), Inv X pins σ H s → RelV o ov → RelV i iv → RelV v u → t o i v H Q →
    wpAny (model X.prog X.w) X.A (setItem ov iv u) (fun _ s' => ∃ H', Inv X pins σ H' s' ∧ Q H') X.xe s
abbrev TIp := V → V → Hp → VK → Prop
def PIp (X : Cx) (op : Operator) (t : TIp) : Prop :=
  ∀ (pins : List (Addr × Obj)) (s : Shared) (σ : St) (H : Hp) (x y : V) (v u : Value) (Q : VK), Inv X pins σ H s → RelV x v → RelV y u → t x y H Q →
    wpAny (model X.prog X.w) X.A (inplaceOp op v u) (EP X pins σ Q) X.xe s
section
variable {X : Cx} {pos : Pos}
def gName (i : Nat) : TG := fun v σ H Q => Q (σ.set i (some v)) H
theorem pg_name {i : Nat} {x : Str} (hN : X.N.Nodup) (hi : X.N[i]? = some x) (hx : Loc X.env.scope x) (hf : X.fn x = true ∨ X.env.scope.names.lookup x = some .local := by first | exact .inl rfl | exact .inr rfl | assumption) : PG X (.Name x pos) (gName i) := by
  intro pins s σ H v u Q I r h
  exact wpAny_assign_Name (store_ok I hN hi hx r (fun s' I' => ⟨_, H, I', h⟩) hf)
def gNil : TGs := fun vs σ H Q => vs = [] ∧ Q σ H
def gCons (t : TG) (u : TGs) : TGs := fun vs σ H Q => ∃ v r, vs = v :: r ∧ t v σ H fun σ' H' => u r σ' H' Q
theorem pgs_nil : PGs X [] gNil := by
  intro pins s σ H vs us Q I r h
  obtain ⟨e, h⟩ := h
  subst e
  cases r
  exact assignInOrder_nil ⟨σ, H, I, h⟩
theorem pgs_cons {e : Expr} {es : List Expr} {t : TG} {u : TGs} (h1 : PG X e t) (h2 : PGs X es u)
    (hs : (assignEach (e :: es) X.env).map (·.2) = assign e X.env :: (assignEach es X.env).map (·.2) := by rfl) : PGs X (e :: es) (gCons t u) := by
  intro pins s σ H vs us Q I r h
  obtain ⟨v, vr, e1, h⟩ := h
  subst e1
  cases r with
  | cons r rr =>
    rw [hs]
    refine assignInOrder_cons (thn (h1 pins s σ H _ _ _ I r h) fun _ s1 hx9 => ?_)
    obtain ⟨σ1, H1, I1, q1⟩ := hx9
    exact h2 pins s1 σ1 H1 _ _ Q I1 rr q1
def gTup (K : PySem.W.Frag) (n : Nat) (t : TGs) : TG := fun v σ H Q => ∃ a xs, v = .ref a ∧ SqT K H a xs ∧ xs.length = n ∧ t xs σ H Q
theorem pg_tup {es : List Expr} {k : Nat} {t : TGs} {n : Nat} (hc : X.calm = true) (h : PGs X es t)
    (hn : (assignEach es X.env).length = n := by rfl) (hst : (assignEach es X.env).findIdx? (·.1) = none := by rfl) : PG X (.Tuple es k pos) (gTup X.K n t) := by
  intro pins s σ H v u Q I r hw
  obtain ⟨a, xs, e1, hq, hl, hw⟩ := hw
  subst e1
  cases r
  obtain ⟨its, rv, ht, hz⟩ := I.tuple hq
  refine assign_Tuple_tuple (I.ok.hd hc) ht (by simp [hn, ← hl, rv.length]) hst fun h' hx => ?_
  have I1 : Inv X pins σ H { s with heap := h' } := I.kept (t' := s.toks) fun b o e => hx b o (Nat.ne_of_lt (Heap.lt_size e)) e
  exact h pins _ σ H xs _ Q I1 (by simpa using rv) hw
def gSub (to ti : TE) (t : TSet) : TG := fun v σ H Q => to σ H fun o H1 => ti σ H1 fun i H2 => t o i v H2 fun H3 => Q σ H3
theorem pg_sub {o i : Expr} {to ti : TE} {t : TSet} (ho : PE X o to) (hi : PE X i ti) (hs : PSet X t)
    (ha : ∀ v, assign (.Subscript o i pos) X.env v = (do
      let ov ← holding [v] (eval o X.env)
      let iv ← holding [v, ov] (eval i X.env)
      standAt pos
      holding [v, ov, iv] (setItem ov iv v)
      release [v, ov, iv] []) := by intro _; rfl) : PG X (.Subscript o i pos) (gSub to ti t) := by
  intro pins s σ H v u Q I r h
  rw [ha]
  refine wpAny_bind (wpAny_holding (thn (ho pins s σ H _ I h) fun ov s1 hx9 => ?_))
  obtain ⟨x, H1, I1, r1, q1⟩ := hx9
  refine wpAny_bind (wpAny_holding (thn (hi pins s1 σ H1 _ I1 q1) fun iv s2 hx9 => ?_))
  obtain ⟨y, H2, I2, r2, q2⟩ := hx9
  refine wpAny_bind (wpAny_standAt (wpAny_bind (wpAny_holding (thn (hs pins s2 σ H2 x y v ov iv u _ I2 r1 r2 r q2) fun _ s3 hx9 => ?_))))
  obtain ⟨H3, I3, q3⟩ := hx9
  exact wpAny_release ⟨σ, H3, I3, q3⟩
def tAsg (te : TE) (g : TG) : TS := fun D σ H => te σ H fun x H1 => g x σ H1 D.nx
theorem ps_asg {tg e : Expr} {te : TE} {g : TG} (he : PE X e te) (hg : PG X tg g) (hs : swapsWithSole [tg] e pos.line X.env = pure false := by rfl) (hw : swappedStores [tg] e X.env = pure none := by rfl)
    (h1 : (assignEach [tg] X.env).map (·.2) = [assign tg X.env] := by rfl) : PS X (.Assign [tg] e pos) (tAsg te g) := by
  intro pins s σ H D I h
  refine wpAny_Assign_stores (thn (he pins s σ H _ I h) fun v s1 hx9 => ?_) hs hw
  obtain ⟨x, H1, I1, r1, q1⟩ := hx9
  rw [h1]
  exact thn (hg pins s1 σ H1 x v _ I1 r1 q1) fun _ s2 q => q
theorem ps_set {i : Nat} {x : Str} {e : Expr} {te : TE} {pos' : Pos} (hN : X.N.Nodup) (hi : X.N[i]? = some x) (hx : Loc X.env.scope x) (he : PE X e te) (hs : swapsWith e (some (.Name x pos')) pos.line X.env = pure false := by rfl) (hf : X.fn x = true ∨ X.env.scope.names.lookup x = some .local := by first | exact .inl rfl | exact .inr rfl | assumption) :
    PS X (.Assign [.Name x pos'] e pos) (tAsg te (gName i)) := by
  intro pins s σ H D I h
  refine wpAny_Assign_Name (thn (he pins s σ H _ I h) fun v s1 hx9 => ?_) hs
  obtain ⟨y, H1, I1, r1, q1⟩ := hx9
  exact store_ok I1 hN hi hx r1 (fun s2 I2 => ⟨_, H1, I2, q1⟩) hf
def tAugS (to ti te : TE) (tget : V → V → Hp → VK → Prop) (tip : TIp) (tset : TSet) : TS := fun D σ H => to σ H fun o H1 => ti σ H1 fun i H2 => tget o i H2 fun x H3 => te σ H3 fun y H4 => tip x y H4 fun z H5 => tset o i z H5 fun H6 => D.nx σ H6
def PGet (X : Cx) (t : V → V → Hp → VK → Prop) : Prop :=
  ∀ (pins : List (Addr × Obj)) (s : Shared) (σ : St) (H : Hp) (o i : V) (ov iv : Value) (Q : VK), Inv X pins σ H s → RelV o ov → RelV i iv → t o i H Q →
    wpAny (model X.prog X.w) X.A (getItem ov iv) (EP X pins σ Q) X.xe s
theorem ps_augS {o i e : Expr} {to ti te : TE} {tget : V → V → Hp → VK → Prop} {tip : TIp} {tset : TSet} {op : Operator} {tpos : Pos} (ho : PE X o to) (hi : PE X i ti) (hg : PGet X tget) (he : PE X e te) (hp : PIp X op tip) (hs : PSet X tset)
    (ha : ∀ ov iv new, augStore i ov iv new = (do holding [new, ov, iv] (setItem ov iv new); release [new, ov, iv] []; pure .next) := by intros; rfl) : PS X (.AugAssign (.Subscript o i tpos) op e pos) (tAugS to ti te tget tip tset) := by
  intro pins s σ H D I h
  refine wpAny_AugAssign_SubscriptAny (thn (ho pins s σ H _ I h) fun ov s1 hx9 => ?_) ha
  obtain ⟨x1, H1, I1, r1, q1⟩ := hx9
  refine thn (hi pins s1 σ H1 _ I1 q1) fun iv s2 hx9 => ?_
  obtain ⟨x2, H2, I2, r2, q2⟩ := hx9
  refine thn (hg pins s2 σ H2 x1 x2 ov iv _ I2 r1 r2 q2) fun old s3 hx9 => ?_
  obtain ⟨x3, H3, I3, r3, q3⟩ := hx9
  refine thn (he pins s3 σ H3 _ I3 q3) fun v s4 hx9 => ?_
  obtain ⟨x4, H4, I4, r4, q4⟩ := hx9
  refine thn (hp pins s4 σ H4 x3 x4 old v _ I4 r3 r4 q4) fun new s5 hx9 => ?_
  obtain ⟨x5, H5, I5, r5, q5⟩ := hx9
  refine thn (hs pins s5 σ H5 x1 x2 x5 ov iv new _ I5 r1 r2 r5 q5) fun _ s6 hx9 => ?_
  obtain ⟨H6, I6, q6⟩ := hx9
  exact ⟨σ, H6, I6, q6⟩
def ipI (f : Int → Int → Int) : TIp := fun x y H Q => ∃ i j, x = .int i ∧ y = .int j ∧ Q (.int (f i j)) H
theorem ip_add : PIp X .Add (ipI fun i j => i + j) := by
  intro pins s σ H x y v u Q I r1 r2 h
  obtain ⟨i, j, e1, e2, q⟩ := h
  subst e1; subst e2
  obtain ⟨t, rfl⟩ := r1
  obtain ⟨t', rfl⟩ := r2
  exact iadd_int ⟨.int _, H, I.tok _, ⟨_, rfl⟩, q⟩
end

section
variable {X : Cx} {pos : Pos}
def tWhile (c : TT) (tb : TS) : TS := fun D σ H => ∃ W : Nat → St → Hp → Prop, (∃ m, W m σ H) ∧ ∀ m σ H, W m σ H →
  c σ H fun b H1 => if b = true then ∃ N : St → Hp → Prop, (∀ σ' H', N σ' H' → ∃ m', m' < m ∧ W m' σ' H') ∧ tb { D with nx := N, ct := N, bk := D.nx } σ H1 else D.nx σ H1
theorem ps_while {c : Expr} {body : List Stmt} {tc : TT} {tb : TS} (hp : PassesOwn (model X.prog X.w) X.A X.env X.xe) (hc : PT X c tc) (hb : PSs X body tb) : PS X (.While c body [] pos) (tWhile tc tb) := by
  intro pins s σ H D I h
  obtain ⟨W, ⟨m0, w0⟩, turn⟩ := h
  refine wpAny_While (codeAny_whileLoop (fun n s' => ∃ σ' H', Inv X pins σ' H' s' ∧ W n σ' H') ?_ m0 ⟨σ, H, I, w0⟩)
  rintro n s1 ⟨σ1, H1, I1, w1⟩
  refine wpAny_passesOwn hp (thn (hc pins s1 σ1 H1 _ I1 (turn n σ1 H1 w1)) fun b s2 hx9 => ?_)
  obtain ⟨H2, I2, q2⟩ := hx9
  cases b with
  | true =>
    obtain ⟨N, hN, q2⟩ := q2
    rw [if_pos rfl]
    refine wpAny_passesOwn hp (thn (hb pins s2 σ1 H2 _ I2 q2) fun f s3 q3 => ?_)
    cases f with
    | next =>
      obtain ⟨σ3, H3, I3, n3⟩ := q3
      obtain ⟨m', hm, w3⟩ := hN σ3 H3 n3
      exact ⟨m', hm, σ3, H3, I3, w3⟩
    | cont =>
      obtain ⟨σ3, H3, I3, n3⟩ := q3
      obtain ⟨m', hm, w3⟩ := hN σ3 H3 n3
      exact ⟨m', hm, σ3, H3, I3, w3⟩
    | brk => exact q3
    | ret v => exact q3
  | false =>
    rw [if_neg Bool.false_ne_true]
    exact wpAny_execs_nil ⟨σ1, H2, I2, q2⟩
end

structure It where
  go : Nat → Hp → Prop
  yld : Nat → Hp → V → Hp → Prop
  stop : Nat → Hp → Prop
def FpOk (X : Cx) (pins : List (Addr × Obj)) (H : Hp) (b : Addr) : Prop :=
  H b = none ∧ b ≠ X.env.locals ∧ b ∉ X.fs ∧ (b ∈ X.ex ∨ X.s₀.heap.objs.size ≤ b) ∧ (∀ x c, X.env.cells.lookup x = some c → c ≠ b) ∧ ∀ p ∈ X.pn ++ pins, p.1 ≠ b
theorem Inv.fpOk {X : Cx} {pins : List (Addr × Obj)} {σ : St} {H H' : Hp} {s : Shared} {b : Addr} (I : Inv X pins σ H s) (hb : s.heap.objs.size ≤ b) (hn : H' b = none) : FpOk X pins H' b := by
  refine ⟨hn, Nat.ne_of_gt (Nat.lt_of_lt_of_le I.lt hb), I.nofs hb, .inr (Nat.le_trans I.sz hb), fun x c e z => ?_, fun p hp z => ?_⟩
  · obtain ⟨v, q⟩ := I.cell x c e
    exact absurd (Nat.lt_of_lt_of_le q.lt (by rw [z]; exact hb)) (Nat.lt_irrefl _)
  · exact absurd (Nat.lt_of_lt_of_le (Heap.lt_size (I.pin p hp).1) (by rw [z]; exact hb)) (Nat.lt_irrefl _)
structure Turn (P : Program) (w : World) (K : PySem.W.Frag) (tg : Expr) (J : It) (fp : List Addr) (it : Addr) (tn : Nat → Heap → Prop) : Prop where
  mem : it ∈ fp
  obj : ∀ i h, tn i h → ∀ b ∈ fp, ∃ o, h.get? b = some o ∧ ∀ v, o.data ≠ .cell v
  keep : ∀ i h h', tn i h → (∀ b ∈ fp, ∀ o, h.get? b = some o → h'.get? b = some o) → tn i h'
  item : ∀ (X : Cx), X.prog = P → X.w = w → X.K = K → X.calm = true → ∀ (i : Nat) (pins : List (Addr × Obj)) (s : Shared) (σ : St) (H : Hp) (E : Value → Shared → Prop), Inv X pins σ H s → (∀ b ∈ fp, FpOk X pins H b) → tn i s.heap → J.go i H →
    wpAny (model P w) X.A (pyNext (.ref it)) (fun r s1 => ∃ u, r = some u ∧
      wpAny (model P w) X.A (letOwnedTupleGo tg (.ref it) u) (fun _ s2 => ∃ x H', Inv X pins σ H' s2 ∧ RelV x u ∧ J.yld i H x H' ∧ tn (i + 1) s2.heap ∧ ∀ b ∈ fp, H' b = none) E s1) E s
  done : ∀ (X : Cx), X.prog = P → X.w = w → X.K = K → X.calm = true → ∀ (i : Nat) (pins : List (Addr × Obj)) (s : Shared) (σ : St) (H : Hp) (E : Value → Shared → Prop), Inv X pins σ H s → (∀ b ∈ fp, FpOk X pins H b) → tn i s.heap → J.stop i H →
    wpAny (model P w) X.A (pyNext (.ref it)) (fun r s1 => r = none ∧ Inv X pins σ H s1) E s
  self : ∀ (A : Around) (i : Nat) (s : Shared) (Q : Value → Shared → Prop) (E : Value → Shared → Prop), tn i s.heap → Q (.ref it) s → wpAny (model P w) A (pyIter (.ref it)) Q E s
abbrev TI := St → Hp → (It → Hp → Prop) → Prop
def PIE (X : Cx) (pins : List (Addr × Obj)) (σ : St) (tg : Expr) (R : It → Hp → Prop) (itv : Value) (s2 : Shared) : Prop :=
  ∃ (it : Addr) (fp : List Addr) (tn : Nat → Heap → Prop) (J : It) (H' : Hp), itv = .ref it ∧ Inv X pins σ H' s2 ∧ Turn X.prog X.w X.K tg J fp it tn ∧ tn 0 s2.heap ∧ (∀ b ∈ fp, FpOk X pins H' b) ∧ R J H'
def PI (X : Cx) (tg iter : Expr) (wi : TI) : Prop :=
  ∀ (pins : List (Addr × Obj)) (s : Shared) (σ : St) (H : Hp) (R : It → Hp → Prop), Inv X pins σ H s → wi σ H R →
    wpAny (model X.prog X.w) X.A (eval iter X.env) (fun v s1 => wpAny (model X.prog X.w) X.A (pyIter v) (PIE X pins σ tg R) X.xe s1) X.xe s

theorem go_of {M : Model} {A : Around} {E : Value → Shared → Prop} {s : Shared} {tg : Expr} {it : Addr} {u : Value} {o : Obj} {n : String} {vs : Array Value} {Q : Unit → Shared → Prop} (ho : s.heap.get? it = some o) (hc : o.cls = .type n) (hd : o.data = .fields vs)
    (hn : ["enumerate", "zip", "dict_itemiterator", "dict_reverseitemiterator", "odict_iterator", "itertools.zip_longest", "itertools.pairwise"].contains n = false) (hQ : Q () s) : wpAny M A (letOwnedTupleGo tg (.ref it) u) Q E s := by
  unfold letOwnedTupleGo
  cases tg <;> first
    | exact wpAny_pure hQ
    | (cases u <;> first
        | exact wpAny_pure hQ
        | (refine wpAny_bind (wpAny_load ho ?_)
           rw [hc, hd]
           show wpAny M A (if (["enumerate", "zip", "dict_itemiterator", "dict_reverseitemiterator", "odict_iterator", "itertools.zip_longest", "itertools.pairwise"].contains n && vs[0]? == some (rawInt _)) = true then _ else _) Q E s
           rw [if_neg (by intro h; rw [hn, Bool.false_and] at h; cases h)]
           exact wpAny_pure hQ))

def Itl (K : PySem.W.Frag) (a : Addr) : It :=
  ⟨fun i H => ∃ xs x, SqL K H a xs ∧ xs[i]? = some x, fun i H x H' => H' = H ∧ ∀ xs, SqL K H a xs → xs[i]? = some x, fun i H => ∃ xs, SqL K H a xs ∧ xs.length ≤ i⟩
def Itt (K : PySem.W.Frag) (a : Addr) : It :=
  ⟨fun i H => ∃ xs x, SqT K H a xs ∧ xs[i]? = some x, fun i H x H' => H' = H ∧ ∀ xs, SqT K H a xs → xs[i]? = some x, fun i H => ∃ xs, SqT K H a xs ∧ xs.length ≤ i⟩
def Itr (lo : Int) (n : Nat) : It := ⟨fun i _ => i < n, fun i H x H' => H' = H ∧ x = .int (lo + i), fun i _ => n ≤ i⟩
theorem turn_list {P : Program} {w : World} {K : PySem.W.Frag} {tg : Expr} (a it : Addr) : Turn P w K tg (Itl K a) [it] it (fun i h => h.IsListIter it a i) where
  mem := by simp
  obj := fun i h st b hb => by
    have e : b = it := by simpa using hb
    subst e
    obtain ⟨o, e, c, d⟩ := st
    exact ⟨o, e, fun v z => by rw [d] at z; cases z⟩
  keep := fun i h h' st k => st.at fun o e => k it (by simp) o e
  item := by
    intro X hP hw hK hc i pins s σ H E I hf st hg
    subst hP hw hK
    obtain ⟨xs, x, hq, hx⟩ := hg
    obtain ⟨its, rv, p, hz⟩ := I.list hq
    obtain ⟨u, hu, ru⟩ := rv.get hx
    obtain ⟨f0, f1, f2, f3, f4, f5⟩ := hf it (by simp)
    refine wpAny_pyNext_list_item st p.isList (x := u) (by simpa using hu) fun h' st' sb => ?_
    have I1 : Inv X pins σ H { s with heap := h' } := I.turned (t' := s.toks) (fun b o hb e => (sb.2 b hb).trans e) f0 f1 f3 f4 f5
    obtain ⟨o, e, c, d⟩ := id st'
    exact ⟨u, rfl, go_of (s := { s with heap := h' }) e c d (by decide) ⟨x, H, I1, ru, ⟨rfl, fun ys hy => by rw [I.list_inj hy hq]; exact hx⟩, st', fun b hb => (hf b hb).1⟩⟩
  done := by
    intro X hP hw hK hc i pins s σ H E I hf st hg
    subst hP hw hK
    obtain ⟨xs, hq, hx⟩ := hg
    obtain ⟨its, rv, p, hz⟩ := I.list hq
    obtain ⟨f0, f1, f2, f3, f4, f5⟩ := hf it (by simp)
    have hl := rv.length
    exact wpAny_pyNext_list_end (I.ok.hd hc) st p.isList (by simp; omega) fun h' eb => ⟨rfl, I.turned (t' := s.toks) (fun b o hb e => eb b o hb e) f0 f1 f3 f4 f5⟩
  self := fun _ _ _ _ _ st h => wpAny_pyIter_listiter st h
theorem turn_tuple {P : Program} {w : World} {K : PySem.W.Frag} {tg : Expr} (a it : Addr) : Turn P w K tg (Itt K a) [it] it (fun i h => h.IsTupleIter it a i) where
  mem := by simp
  obj := fun i h st b hb => by
    have e : b = it := by simpa using hb
    subst e
    obtain ⟨o, e, c, d⟩ := st
    exact ⟨o, e, fun v z => by rw [d] at z; cases z⟩
  keep := fun i h h' st k => st.at fun o e => k it (by simp) o e
  item := by
    intro X hP hw hK hc i pins s σ H E I hf st hg
    subst hP hw hK
    obtain ⟨xs, x, hq, hx⟩ := hg
    obtain ⟨its, rv, p, hz⟩ := I.tuple hq
    obtain ⟨u, hu, ru⟩ := rv.get hx
    obtain ⟨f0, f1, f2, f3, f4, f5⟩ := hf it (by simp)
    refine wpAny_pyNext_tuple_item st (show s.heap.IsTuple a its.toArray from p) (x := u) (by simpa using hu) fun h' st' sb => ?_
    have I1 : Inv X pins σ H { s with heap := h' } := I.turned (t' := s.toks) (fun b o hb e => (sb.2 b hb).trans e) f0 f1 f3 f4 f5
    obtain ⟨o, e, c, d⟩ := id st'
    exact ⟨u, rfl, go_of (s := { s with heap := h' }) e c d (by decide) ⟨x, H, I1, ru, ⟨rfl, fun ys hy => by rw [I.tuple_inj hy hq]; exact hx⟩, st', fun b hb => (hf b hb).1⟩⟩
  done := by
    intro X hP hw hK hc i pins s σ H E I hf st hg
    subst hP hw hK
    obtain ⟨xs, hq, hx⟩ := hg
    obtain ⟨its, rv, p, hz⟩ := I.tuple hq
    obtain ⟨f0, f1, f2, f3, f4, f5⟩ := hf it (by simp)
    have hl := rv.length
    exact wpAny_pyNext_tuple_end (I.ok.hd hc) st (show s.heap.IsTuple a its.toArray from p) (by simp; omega) fun h' eb => ⟨rfl, I.turned (t' := s.toks) (fun b o hb e => eb b o hb e) f0 f1 f3 f4 f5⟩
  self := fun _ _ _ _ _ st h => wpAny_pyIter_tupleiter st h
theorem turn_range {P : Program} {w : World} {K : PySem.W.Frag} {tg : Expr} (it : Addr) (lo : Int) (n : Nat) : Turn P w K tg (Itr lo n) [it] it (fun i h => IsRangeIter h it (lo + (i : Nat) * 1) ((n : Int) - (i : Nat)) 1) where
  mem := by simp
  obj := fun i h st b hb => by
    have e : b = it := by simpa using hb
    subst e
    exact ⟨_, st, fun v z => by
      have z' : Data.fields _ = Data.cell v := z
      cases z'⟩
  keep := fun i h h' st k => k it (by simp) _ st
  item := by
    intro X hP hw hK hc i pins s σ H E I hf st hg
    subst hP hw hK
    obtain ⟨f0, f1, f2, f3, f4, f5⟩ := hf it (by simp)
    have W := Walks.range (prog := X.prog) (w := X.w) (I.ok.hd hc) it lo 1 n
    refine W.item i s _ _ hg st fun v h' tk hv st' kk => ?_
    obtain ⟨t, rfl⟩ := hv
    have I1 : Inv X pins σ H { s with heap := h', toks := tk } := I.turned (fun b o hb e => kk b o (by simpa using hb) e) f0 f1 f3 f4 f5
    refine ⟨_, rfl, go_of (s := { s with heap := h', toks := tk }) (n := "range_iterator") st' rfl rfl (by decide) ⟨.int (lo + i), H, I1, ⟨t, ?_⟩, ⟨rfl, rfl⟩, st', fun b hb => (hf b hb).1⟩⟩
    rw [Int.mul_one]
  done := by
    intro X hP hw hK hc i pins s σ H E I hf st hg
    subst hP hw hK
    obtain ⟨f0, f1, f2, f3, f4, f5⟩ := hf it (by simp)
    exact wpAny_pyNext_range_end (I.ok.hd hc) st (by have : n ≤ i := hg; omega) fun h' eb => ⟨rfl, I.turned (t' := s.toks) (fun b o hb e => eb b o hb e) f0 f1 f3 f4 f5⟩
  self := fun _ _ _ _ _ st h => wpAny_pyIter_rangeiter st h
end L2

namespace L2
open PySem PySem.Spec PyProof.Rows
section
variable {X : Cx} {tg : Expr}
def iList (K : PySem.W.Frag) (tl : TE) : TI := fun σ H R => tl σ H fun x H1 => ∃ a, x = .ref a ∧ (∃ xs, SqL K H1 a xs) ∧ R (Itl K a) H1
def iTup (K : PySem.W.Frag) (tl : TE) : TI := fun σ H R => tl σ H fun x H1 => ∃ a, x = .ref a ∧ (∃ xs, SqT K H1 a xs) ∧ R (Itt K a) H1
theorem pi_list {l : Expr} {tl : TE} (hl : PE X l tl) : PI X tg l (iList X.K tl) := by
  intro pins s σ H R I h
  refine thn (hl pins s σ H _ I h) fun v s1 hx9 => ?_
  obtain ⟨x, H1, I1, r1, q1⟩ := hx9
  obtain ⟨a, e, ⟨xs, hq⟩, q⟩ := q1
  subst e
  cases r1
  obtain ⟨its, rv, p, hz⟩ := I1.list hq
  refine wpAny_pyIter_list p.isList ?_
  refine ⟨s1.heap.objs.size, [s1.heap.objs.size], _, _, H1, rfl, I1.kept (t' := s1.toks) fun b o e => Heap.get?_push_of_some _ e, turn_list a _, ⟨_, Heap.get?_push_size _ rfl, rfl, rfl⟩, fun b hb => ?_, q⟩
  have e : b = s1.heap.objs.size := by simpa using hb
  subst e
  exact I1.fpOk (Nat.le_refl _) (I1.hok.fresh (Nat.le_refl _))
theorem pi_tup {l : Expr} {tl : TE} (hl : PE X l tl) : PI X tg l (iTup X.K tl) := by
  intro pins s σ H R I h
  refine thn (hl pins s σ H _ I h) fun v s1 hx9 => ?_
  obtain ⟨x, H1, I1, r1, q1⟩ := hx9
  obtain ⟨a, e, ⟨xs, hq⟩, q⟩ := q1
  subst e
  cases r1
  obtain ⟨its, rv, p, hz⟩ := I1.tuple hq
  refine wpAny_pyIter_tuple (show s1.heap.IsTuple a its.toArray from p) ?_
  refine ⟨s1.heap.objs.size, [s1.heap.objs.size], _, _, H1, rfl, I1.kept (t' := s1.toks) fun b o e => Heap.get?_push_of_some _ e, turn_tuple a _, ⟨_, Heap.get?_push_size _ rfl, rfl, rfl⟩, fun b hb => ?_, q⟩
  have e : b = s1.heap.objs.size := by simpa using hb
  subst e
  exact I1.fpOk (Nat.le_refl _) (I1.hok.fresh (Nat.le_refl _))
theorem range_it {pins : List (Addr × Obj)} {σ : St} {H : Hp} {s : Shared} {R : It → Hp → Prop} {E : Value → Shared → Prop} {lo hi : Int} {t u v : Tok} {tk : Nat} (I : Inv X pins σ H s) (h1 : -(2 ^ 62) ≤ lo) (h2 : lo < 2 ^ 62) (h3 : -(2 ^ 62) ≤ hi) (h4 : hi < 2 ^ 62)
    (q : R (Itr lo (hi - lo).toNat) H) : wpAny (model X.prog X.w) X.A (pyIter (.ref s.heap.objs.size)) (PIE X pins σ tg R) E { s with heap := s.heap.push { cls := .type "range", data := .fields #[.int lo t, .int hi u, .int 1 v] }, toks := tk } := by
  refine wpAny_pyIter_range (IsRange.new ..) (small_one h1 h2 h3 h4) ?_
  have I1 : Inv X pins σ H { s with heap := s.heap.push { cls := .type "range", data := .fields #[.int lo t, .int hi u, .int 1 v] }, toks := tk } := I.kept fun b o e => Heap.get?_push_of_some _ e
  refine ⟨(s.heap.push { cls := .type "range", data := .fields #[.int lo t, .int hi u, .int 1 v] }).objs.size, [(s.heap.push { cls := .type "range", data := .fields #[.int lo t, .int hi u, .int 1 v] }).objs.size], _, _, H, rfl,
    I1.kept (t' := tk) fun b o e => Heap.get?_push_of_some _ e, turn_range _ lo (hi - lo).toNat, ?_, fun b hb => ?_, q⟩
  · have e1 : lo + ((0 : Nat) : Int) * 1 = lo := by simp
    have e2 : (((hi - lo).toNat : Nat) : Int) - ((0 : Nat) : Int) = Builtin.Range.rangeSize lo hi 1 := by rw [rangeSize_one]; split <;> omega
    show IsRangeIter _ _ (lo + ((0 : Nat) : Int) * 1) ((((hi - lo).toNat : Nat) : Int) - ((0 : Nat) : Int)) 1
    rw [e1, e2]
    exact Heap.get?_push_size _ rfl
  · have e : b = (s.heap.push { cls := .type "range", data := .fields #[.int lo t, .int hi u, .int 1 v] }).objs.size := by simpa using hb
    subst e
    exact I1.fpOk (Nat.le_refl _) (I1.hok.fresh (Nat.le_refl _))
def iRng1 (ta : TA) : TI := fun σ H R => ta σ H fun vs H1 => ∃ j : Int, vs = [.int j] ∧ -(2 ^ 62) ≤ j ∧ j < 2 ^ 62 ∧ R (Itr 0 j.toNat) H1
def iRng2 (ta : TA) : TI := fun σ H R => ta σ H fun vs H1 => ∃ i j : Int, vs = [.int i, .int j] ∧ (-(2 ^ 62) ≤ i ∧ i < 2 ^ 62 ∧ -(2 ^ 62) ≤ j ∧ j < 2 ^ 62) ∧ R (Itr i (j - i).toNat) H1
theorem pi_range1 {a : Expr} {ta : TA} {p pos : Pos} (hg : Gl X "range") (hm : X.mg "range" = none) (ha : PA X [a] ta) (hs : starEach [a] X.env = [(false, eval a X.env)] := by rfl) : PI X tg (.Call (.Name "range" p) [a] [] pos) (iRng1 ta) := by
  intro pins s σ H R I h
  refine Call_ (ld_blt I hg hm boot_range (PyProof.Rows.callWith_type1 (thn (ha pos pins s σ H _ I h) fun us s1 hx9 => ?_) hs rfl))
  obtain ⟨vs, H1, I1, r1, q1⟩ := hx9
  obtain ⟨j, e, q1, q2, q⟩ := q1
  subst e
  cases r1 with
  | cons r rr =>
    cases rr
    obtain ⟨t, rfl⟩ := r
    exact call_range_1 (range_it I1 (by omega) (by omega) q1 q2 (by simpa using q))
theorem pi_range2 {a b : Expr} {ta : TA} {p pos : Pos} (hg : Gl X "range") (hm : X.mg "range" = none) (ha : PA X [a, b] ta) (hs : starEach [a, b] X.env = [(false, eval a X.env), (false, eval b X.env)] := by rfl) (hs2 : starEach [b] X.env = [(false, eval b X.env)] := by rfl) :
    PI X tg (.Call (.Name "range" p) [a, b] [] pos) (iRng2 ta) := by
  intro pins s σ H R I h
  refine Call_ (ld_blt I hg hm boot_range (PyProof.Rows.callWith_type1 (thn (ha pos pins s σ H _ I h) fun us s1 hx9 => ?_) (by rw [hs, hs2]) (by rw [hs2]; rfl)))
  obtain ⟨vs, H1, I1, r1, q1⟩ := hx9
  obtain ⟨i, j, e, ⟨q1, q2, q3, q4⟩, q⟩ := q1
  subst e
  cases r1 with
  | cons r rr =>
    cases rr with
    | cons r' rr =>
      cases rr
      obtain ⟨t, rfl⟩ := r
      obtain ⟨t', rfl⟩ := r'
      exact call_range_2 (range_it I1 q1 q2 q3 q4 q)

def tFor (wi : TI) (g : TG) (tb : TS) : TS := fun D σ H => wi σ H fun J H1 => ∃ W : Nat → Nat → St → Hp → Prop, (∃ m, W 0 m σ H1) ∧ ∀ i m σ H, W i m σ H →
  (J.stop i H ∧ D.nx σ H) ∨ (J.go i H ∧ ∃ N : St → Hp → Prop, (∀ σ' H', N σ' H' → ∃ m', m' < m ∧ W (i + 1) m' σ' H') ∧ ∀ x H', J.yld i H x H' → g x σ H' fun σ2 H2 => tb { D with nx := N, ct := N, bk := D.nx } σ2 H2)
def pinsAt (fp : List Addr) (h : Heap) : List (Addr × Obj) := fp.filterMap fun b => (h.get? b).map fun o => (b, o)
theorem mem_pinsAt {fp : List Addr} {h : Heap} {b : Addr} {o : Obj} (hb : b ∈ fp) (e : h.get? b = some o) : (b, o) ∈ pinsAt fp h := List.mem_filterMap.mpr ⟨b, hb, by rw [e]; rfl⟩
theorem of_pinsAt {fp : List Addr} {h : Heap} {p : Addr × Obj} (hp : p ∈ pinsAt fp h) : p.1 ∈ fp ∧ h.get? p.1 = some p.2 := by
  obtain ⟨b, hb, e⟩ := List.mem_filterMap.mp hp
  cases q : h.get? b with
  | none => rw [q] at e; cases e
  | some o =>
    rw [q] at e
    have e' : (b, o) = p := Option.some.inj e
    subst e'
    exact ⟨hb, q⟩
theorem Inv.pinned {pins : List (Addr × Obj)} {σ : St} {H : Hp} {s : Shared} {fp : List Addr} (I : Inv X pins σ H s) (hf : ∀ b ∈ fp, FpOk X pins H b) (ho : ∀ b ∈ fp, ∃ o, s.heap.get? b = some o ∧ ∀ v, o.data ≠ .cell v) : Inv X (pins ++ pinsAt fp s.heap) σ H s :=
  I.pins_of fun p hp => (List.mem_append.mp hp).elim (fun z => I.pin p (List.mem_append_right _ z)) fun z => by
    obtain ⟨hb, e⟩ := of_pinsAt z
    obtain ⟨f0, f1, f2, _⟩ := hf p.1 hb
    obtain ⟨o, e', d⟩ := ho p.1 hb
    rw [e] at e'; cases e'
    exact ⟨e, f0, f1, f2, d⟩
theorem Inv.unpinned {pins pl : List (Addr × Obj)} {σ : St} {H : Hp} {s : Shared} (I : Inv X (pins ++ pl) σ H s) : Inv X pins σ H s := I.pins_of fun p hp => I.pin p (List.mem_append_right _ (List.mem_append_left _ hp))
theorem ps_for {iter : Expr} {body : List Stmt} {wi : TI} {g : TG} {tb : TS} {pos : Pos} (hp : PassesOwn (model X.prog X.w) X.A X.env X.xe) (hc : X.calm = true) (hi : PI X tg iter wi) (hg : PG X tg g) (hb : PSs X body tb)
    (hs : ∀ x, foldedSetIterable iter X.env x = pure x := by intro _; rfl) : PS X (.For tg iter body [] pos) (tFor wi g tb) := by
  intro pins s σ H D I h
  refine wpAny_For (thn (hi pins s σ H _ I h) fun v s1 h1 => thn h1 fun itv s2 h2 => ?_) hs
  obtain ⟨it, fp, tn, J, H2, e, I2, T, st2, f2, W, ⟨m0, w0⟩, turn⟩ := h2
  subst e
  -- what stays true of the iterator's objects through the loop
  have stat : ∀ {H' : Hp}, (∀ b ∈ fp, H' b = none) → ∀ b ∈ fp, FpOk X pins H' b := fun hn b hb => ⟨hn b hb, (f2 b hb).2⟩
  refine codeAny_forLoop_any (fun n s' => ∃ i σ' H', Inv X pins σ' H' s' ∧ tn i s'.heap ∧ (∀ b ∈ fp, H' b = none) ∧ W i n σ' H') ?_ m0 ⟨0, σ, H2, I2, st2, fun b hb => (f2 b hb).1, w0⟩
  rintro n s3 ⟨i, σ3, H3, I3, st3, fr3, w3⟩
  rcases turn i n σ3 H3 w3 with ⟨stop, qn⟩ | ⟨go, N, hN, step⟩
  · refine wpAny_passesOwn hp (thn (T.done X rfl rfl rfl hc i pins s3 σ3 H3 X.xe I3 (stat fr3) st3 stop) fun r s4 hx9 => ?_)
    obtain ⟨hr, I4⟩ := hx9
    subst hr
    exact wpAny_execs_nil ⟨σ3, H3, I4, qn⟩
  · refine wpAny_passesOwn hp (thn (T.item X rfl rfl rfl hc i pins s3 σ3 H3 X.xe I3 (stat fr3) st3 go) fun r s4 hx9 => ?_)
    obtain ⟨u, hr, h4⟩ := hx9
    subst hr
    refine wpAny_passesOwn hp (thn h4 fun _ s5 hx9 => ?_)
    obtain ⟨x, H5, I5, r5, y5, st5, fr5⟩ := hx9
    have I5' := I5.pinned (stat fr5) (T.obj _ _ st5)
    refine wpAny_passesOwn hp (thn (hg _ s5 σ3 H5 x u _ I5' r5 (step x H5 y5)) fun _ s6 hx9 => ?_)
    obtain ⟨σ6, H6, I6, q6⟩ := hx9
    refine wpAny_passesOwn hp (thn (hb _ s6 σ6 H6 _ I6 q6) fun f s7 q7 => ?_)
    have again : ∀ {σ7 : St} {H7 : Hp}, Inv X (pins ++ pinsAt fp s5.heap) σ7 H7 s7 → N σ7 H7 → ∃ m, m < n ∧ ∃ i σ' H', Inv X pins σ' H' s7 ∧ tn i s7.heap ∧ (∀ b ∈ fp, H' b = none) ∧ W i m σ' H' := fun {σ7 H7} I7 n7 => by
      obtain ⟨m', hm, w7⟩ := hN σ7 H7 n7
      refine ⟨m', hm, i + 1, σ7, H7, I7.unpinned, T.keep _ _ _ st5 fun b hb o e => (I7.pin (b, o) (List.mem_append_right _ (List.mem_append_right _ (mem_pinsAt hb e)))).1, fun b hb => ?_, w7⟩
      obtain ⟨o, e, d⟩ := T.obj _ _ st5 b hb
      exact (I7.pin (b, o) (List.mem_append_right _ (List.mem_append_right _ (mem_pinsAt hb e)))).2.1
    cases f with
    | next => obtain ⟨σ7, H7, I7, n7⟩ := q7; exact again I7 n7
    | cont => obtain ⟨σ7, H7, I7, n7⟩ := q7; exact again I7 n7
    | brk => obtain ⟨σ7, H7, I7, q7⟩ := q7; exact ⟨σ7, H7, I7.unpinned, q7⟩
    | ret v => obtain ⟨x7, σ7, H7, I7, r7, q7⟩ := q7; exact ⟨x7, σ7, H7, I7.unpinned, r7, q7⟩
end

theorem for_list {K : PySem.W.Frag} {a : Addr} {xs : List V} {g : TG} {tb : TS} {D : Ends} {σ : St} {H : Hp} (Pv : Nat → St → Hp → Prop) (h0 : Pv 0 σ H) (hl : ∀ i σ H, i ≤ xs.length → Pv i σ H → SqL K H a xs)
    (hs : ∀ i x σ H, xs[i]? = some x → Pv i σ H → g x σ H fun σ2 H2 => tb { D with nx := Pv (i + 1), ct := Pv (i + 1), bk := D.nx } σ2 H2) (hd : ∀ σ H, Pv xs.length σ H → D.nx σ H) :
    ∃ W : Nat → Nat → St → Hp → Prop, (∃ m, W 0 m σ H) ∧ ∀ i m σ H, W i m σ H →
      ((Itl K a).stop i H ∧ D.nx σ H) ∨ ((Itl K a).go i H ∧ ∃ N : St → Hp → Prop, (∀ σ' H', N σ' H' → ∃ m', m' < m ∧ W (i + 1) m' σ' H') ∧ ∀ x H', (Itl K a).yld i H x H' → g x σ H' fun σ2 H2 => tb { D with nx := N, ct := N, bk := D.nx } σ2 H2) := by
  refine ⟨fun i m σ H => m = xs.length - i ∧ i ≤ xs.length ∧ Pv i σ H, ⟨xs.length, by simp, Nat.zero_le _, h0⟩, ?_⟩
  rintro i m σ H ⟨rfl, hi, p⟩
  have q := hl i σ H hi p
  by_cases hlt : i < xs.length
  · refine .inr ⟨⟨xs, xs[i], q, by simp [hlt]⟩, Pv (i + 1), fun σ' H' p' => ⟨xs.length - (i + 1), by omega, rfl, hlt, p'⟩, fun x H' y => ?_⟩
    obtain ⟨e, y⟩ := y
    subst e
    exact hs i x σ _ (y xs q) p
  · have e : i = xs.length := by omega
    subst e
    exact .inl ⟨⟨xs, q, Nat.le_refl _⟩, hd σ H p⟩
theorem for_tup {K : PySem.W.Frag} {a : Addr} {xs : List V} {g : TG} {tb : TS} {D : Ends} {σ : St} {H : Hp} (Pv : Nat → St → Hp → Prop) (h0 : Pv 0 σ H) (hl : ∀ i σ H, i ≤ xs.length → Pv i σ H → SqT K H a xs)
    (hs : ∀ i x σ H, xs[i]? = some x → Pv i σ H → g x σ H fun σ2 H2 => tb { D with nx := Pv (i + 1), ct := Pv (i + 1), bk := D.nx } σ2 H2) (hd : ∀ σ H, Pv xs.length σ H → D.nx σ H) :
    ∃ W : Nat → Nat → St → Hp → Prop, (∃ m, W 0 m σ H) ∧ ∀ i m σ H, W i m σ H →
      ((Itt K a).stop i H ∧ D.nx σ H) ∨ ((Itt K a).go i H ∧ ∃ N : St → Hp → Prop, (∀ σ' H', N σ' H' → ∃ m', m' < m ∧ W (i + 1) m' σ' H') ∧ ∀ x H', (Itt K a).yld i H x H' → g x σ H' fun σ2 H2 => tb { D with nx := N, ct := N, bk := D.nx } σ2 H2) := by
  refine ⟨fun i m σ H => m = xs.length - i ∧ i ≤ xs.length ∧ Pv i σ H, ⟨xs.length, by simp, Nat.zero_le _, h0⟩, ?_⟩
  rintro i m σ H ⟨rfl, hi, p⟩
  have q := hl i σ H hi p
  by_cases hlt : i < xs.length
  · refine .inr ⟨⟨xs, xs[i], q, by simp [hlt]⟩, Pv (i + 1), fun σ' H' p' => ⟨xs.length - (i + 1), by omega, rfl, hlt, p'⟩, fun x H' y => ?_⟩
    obtain ⟨e, y⟩ := y
    subst e
    exact hs i x σ _ (y xs q) p
  · have e : i = xs.length := by omega
    subst e
    exact .inl ⟨⟨xs, q, Nat.le_refl _⟩, hd σ H p⟩
theorem for_range {lo : Int} {n : Nat} {g : TG} {tb : TS} {D : Ends} {σ : St} {H : Hp} (Pv : Nat → St → Hp → Prop) (h0 : Pv 0 σ H)
    (hs : ∀ i σ H, i < n → Pv i σ H → g (.int (lo + i)) σ H fun σ2 H2 => tb { D with nx := Pv (i + 1), ct := Pv (i + 1), bk := D.nx } σ2 H2) (hd : ∀ σ H, Pv n σ H → D.nx σ H) :
    ∃ W : Nat → Nat → St → Hp → Prop, (∃ m, W 0 m σ H) ∧ ∀ i m σ H, W i m σ H →
      ((Itr lo n).stop i H ∧ D.nx σ H) ∨ ((Itr lo n).go i H ∧ ∃ N : St → Hp → Prop, (∀ σ' H', N σ' H' → ∃ m', m' < m ∧ W (i + 1) m' σ' H') ∧ ∀ x H', (Itr lo n).yld i H x H' → g x σ H' fun σ2 H2 => tb { D with nx := N, ct := N, bk := D.nx } σ2 H2) := by
  refine ⟨fun i m σ H => m = n - i ∧ i ≤ n ∧ Pv i σ H, ⟨n, by simp, Nat.zero_le _, h0⟩, ?_⟩
  rintro i m σ H ⟨rfl, hi, p⟩
  by_cases hlt : i < n
  · refine .inr ⟨hlt, Pv (i + 1), fun σ' H' p' => ⟨n - (i + 1), by omega, rfl, hlt, p'⟩, fun x H' y => ?_⟩
    obtain ⟨e, y⟩ := y
    subst e y
    exact hs i σ _ hlt p
  · have e : i = n := by omega
    subst e
    exact .inl ⟨Nat.le_refl _, hd σ H p⟩
end L2

namespace L2
open PySem PySem.Spec PyProof.Rows

abbrev R2 := V → V → Hp → VK → Prop
def OpR (X : Cx) (f : Value → Value → Sem Value) (r : R2) : Prop :=
  ∀ (pins : List (Addr × Obj)) (s : Shared) (σ : St) (H : Hp) (x y : V) (v u : Value) (Q : VK), Inv X pins σ H s → RelV x v → RelV y u → r x y H Q →
    wpAny (model X.prog X.w) X.A (f v u) (EP X pins σ Q) X.xe s
def UnR (X : Cx) (f : Value → Sem Value) (r : V → Hp → VK → Prop) : Prop :=
  ∀ (pins : List (Addr × Obj)) (s : Shared) (σ : St) (H : Hp) (x : V) (v : Value) (Q : VK), Inv X pins σ H s → RelV x v → r x H Q →
    wpAny (model X.prog X.w) X.A (f v) (EP X pins σ Q) X.xe s
def CallR (X : Cx) (f : Value) (r : List V → Hp → VK → Prop) : Prop :=
  ∀ (pins : List (Addr × Obj)) (s : Shared) (σ : St) (H : Hp) (xs : List V) (us : List Value) (Q : VK), Inv X pins σ H s → Vals xs us → r xs H Q →
    wpAny (model X.prog X.w) X.A (call f us) (EP X pins σ Q) X.xe s
def TruR (X : Cx) (r : V → Hp → (Bool → Hp → Prop) → Prop) : Prop :=
  ∀ (pins : List (Addr × Obj)) (s : Shared) (σ : St) (H : Hp) (x : V) (v : Value) (Q : Bool → Hp → Prop), Inv X pins σ H s → RelV x v → r x H Q →
    wpAny (model X.prog X.w) X.A (truthy v) (TP X pins σ Q) X.xe s

def tOp (r : R2) (ta tb : TE) : TE := fun σ H Q => ta σ H fun x H1 => tb σ H1 fun y H2 => r x y H2 Q
def tUn (r : V → Hp → VK → Prop) (ta : TE) : TE := fun σ H Q => ta σ H fun x H1 => r x H1 Q
def rI (C : Int → Int → Prop) (g : Int → Int → V) : R2 := fun x y H Q => ∃ i j, x = .int i ∧ y = .int j ∧ C i j ∧ Q (g i j) H
def rI0 (g : Int → Int → V) : R2 := fun x y H Q => ∃ i j, x = .int i ∧ y = .int j ∧ Q (g i j) H
def rU (g : Int → V) : V → Hp → VK → Prop := fun x H Q => ∃ i, x = .int i ∧ Q (g i) H

section
variable {X : Cx} {a b c : Expr} {ta tb tc : TE} {pos : Pos}

theorem binT (ha : PE X a ta) (hb : PE X b tb) {pins : List (Addr × Obj)} {s : Shared} {σ : St} {H : Hp} {R : V → V → Hp → Prop} (I : Inv X pins σ H s)
    (h : ta σ H fun x H1 => tb σ H1 fun y H2 => R x y H2) {Q : Value → Shared → Prop} {f : Value → Value → Sem Value}
    (hf : ∀ v u s2 x y H2, Inv X pins σ H2 s2 → RelV x v → RelV y u → R x y H2 → wpAny (model X.prog X.w) X.A (f v u) Q X.xe s2) :
    wpAny (model X.prog X.w) X.A (eval a X.env) (fun v s₁ => wpAny (model X.prog X.w) X.A (eval b X.env) (fun u s₂ => wpAny (model X.prog X.w) X.A (f v u) Q X.xe s₂) X.xe s₁) X.xe s := by
  refine thn (ha pins s σ H _ I h) fun v s1 hx9 => ?_
  obtain ⟨x, H1, I1, r1, q1⟩ := hx9
  refine thn (hb pins s1 σ H1 _ I1 q1) fun u s2 hx9 => ?_
  obtain ⟨y, H2, I2, r2, q2⟩ := hx9
  exact hf v u s2 x y H2 I2 r1 r2 q2

theorem pe_op {op : Operator} {r : R2} (ho : OpR X (binaryOp op) r) (ha : PE X a ta) (hb : PE X b tb) : PE X (.BinOp a op b pos) (tOp r ta tb) := by
  intro pins s σ H Q I h
  exact wpAny_BinOp (binT ha hb I h fun v u s2 x y H2 I2 rx ry q => ho pins s2 σ H2 x y v u Q I2 rx ry q)
theorem pe_un {op : UnaryOp} {r : V → Hp → VK → Prop} (ho : UnR X (unaryOp op) r) (ha : PE X a ta) : PE X (.UnaryOp op a pos) (tUn r ta) := by
  intro pins s σ H Q I h
  refine UnaryOp_ (thn (ha pins s σ H _ I h) fun v s1 hx9 => ?_)
  obtain ⟨x, H1, I1, r1, q1⟩ := hx9
  exact ho pins s1 σ H1 x v Q I1 r1 q1
theorem opI {f : Value → Value → Sem Value} {C : Int → Int → Prop} {g : Int → Int → Int}
    (rule : ∀ (i j : Int) (t u : Tok) (s : Shared) (Q : Value → Shared → Prop) (E : Value → Shared → Prop), C i j → Q (.int (g i j) s.toks) { s with toks := s.toks + 1 } → wpAny (model X.prog X.w) X.A (f (.int i t) (.int j u)) Q E s) :
    OpR X f (rI C fun i j => .int (g i j)) := by
  intro pins s σ H x y v u Q I rx ry h
  obtain ⟨i, j, rfl, rfl, hc, q⟩ := h
  obtain ⟨t, rfl⟩ := rx
  obtain ⟨t', rfl⟩ := ry
  exact rule i j t t' s _ _ hc ⟨.int (g i j), H, I.tok _, ⟨_, rfl⟩, q⟩
theorem opI0 {f : Value → Value → Sem Value} {g : Int → Int → Int}
    (rule : ∀ (i j : Int) (t u : Tok) (s : Shared) (Q : Value → Shared → Prop) (E : Value → Shared → Prop), Q (.int (g i j) s.toks) { s with toks := s.toks + 1 } → wpAny (model X.prog X.w) X.A (f (.int i t) (.int j u)) Q E s) :
    OpR X f (rI0 fun i j => .int (g i j)) := by
  intro pins s σ H x y v u Q I rx ry h
  obtain ⟨i, j, rfl, rfl, q⟩ := h
  obtain ⟨t, rfl⟩ := rx
  obtain ⟨t', rfl⟩ := ry
  exact rule i j t t' s _ _ ⟨.int (g i j), H, I.tok _, ⟨_, rfl⟩, q⟩
theorem opB0 {f : Value → Value → Sem Value} {g : Int → Int → Bool}
    (rule : ∀ (i j : Int) (t u : Tok) (s : Shared) (Q : Value → Shared → Prop) (E : Value → Shared → Prop), Q (.bool (g i j)) s → wpAny (model X.prog X.w) X.A (f (.int i t) (.int j u)) Q E s) :
    OpR X f (rI0 fun i j => .bl (g i j)) := by
  intro pins s σ H x y v u Q I rx ry h
  obtain ⟨i, j, rfl, rfl, q⟩ := h
  obtain ⟨t, rfl⟩ := rx
  obtain ⟨t', rfl⟩ := ry
  exact rule i j t t' s _ _ ⟨.bl (g i j), H, I, rfl, q⟩

def CDiv (i j : Int) : Prop := 0 < j ∧ j < 1073741824
def CPow (i j : Int) : Prop := 0 ≤ j ∧ j ≤ 1000000 ∧ i.natAbs < 2 ^ 64
def CMul (i j : Int) : Prop := (-(2 ^ 64) < i ∧ i < 2 ^ 64) ∨ (-(2 ^ 64) < j ∧ j < 2 ^ 64)
theorem CMul.ok {i j : Int} (h : CMul i j) : IntMulOk i j := by
  rcases h with ⟨h1, h2⟩ | ⟨h1, h2⟩
  · exact .of_left (intBits_le_64 h1 h2)
  · exact .of_right (intBits_le_64 h1 h2)
theorem op_add : OpR X (binaryOp .Add) (rI0 fun i j => .int (i + j)) := opI0 fun _ _ _ _ _ _ _ q => add_int q
theorem op_sub : OpR X (binaryOp .Sub) (rI0 fun i j => .int (i - j)) := opI0 fun _ _ _ _ _ _ _ q => sub_int q
theorem op_mul : OpR X (binaryOp .Mult) (rI CMul fun i j => .int (i * j)) := opI fun _ _ _ _ _ _ _ hc q => mul_int q hc.ok
theorem op_fdiv : OpR X (binaryOp .FloorDiv) (rI CDiv fun i j => .int (i / j)) := opI fun i j _ _ _ _ _ hc q => by
  have h1 : (0 : Int) < j := hc.1
  have h2 : j < 1073741824 := hc.2
  exact floordiv_int (by omega) (by rw [Int.fdiv_eq_ediv_of_nonneg i (by omega)]; exact q) (.inl (PyProof.noPylong_small (by omega)))
theorem op_mod : OpR X (binaryOp .Mod) (rI (fun _ j => 0 < j) fun i j => .int (i % j)) := opI fun i j _ _ _ _ _ hc q => by
  have h1 : (0 : Int) < j := hc
  exact mod_int' (by omega) (by rw [Int.fmod_eq_emod_of_nonneg i (by omega)]; exact q)
theorem op_pow : OpR X (binaryOp .Pow) (rI CPow fun i j => .int (i ^ j.toNat)) := opI fun _ _ _ _ _ _ _ hc q => pow_int_small hc.1 hc.2.1 hc.2.2 q
theorem unI {f : Value → Sem Value} {g : Int → Int}
    (rule : ∀ (i : Int) (t : Tok) (s : Shared) (Q : Value → Shared → Prop) (E : Value → Shared → Prop), Q (.int (g i) s.toks) { s with toks := s.toks + 1 } → wpAny (model X.prog X.w) X.A (f (.int i t)) Q E s) :
    UnR X f (rU fun i => .int (g i)) := by
  intro pins s σ H x v Q I rx h
  obtain ⟨i, rfl, q⟩ := h
  obtain ⟨t, rfl⟩ := rx
  exact rule i t s _ _ ⟨.int (g i), H, I.tok _, ⟨_, rfl⟩, q⟩
theorem un_neg : UnR X (unaryOp .USub) (rU fun i => .int (-i)) := unI fun _ _ _ _ _ q => neg_int q
end

def scal : V → V → Bool
  | .non, .non => true | .non, .int _ => true | .int _, .non => true | .non, .bl _ => true | .bl _, .non => true | .non, .str _ => true | .str _, .non => true
  | .int _, .int _ => true | .bl _, .bl _ => true | .str _, .str _ => true | .byt _, .byt _ => true
  | .int _, .str _ => true | .str _, .int _ => true | .bl _, .str _ => true | .str _, .bl _ => true
  | _, _ => false
def rEq : R2 := fun x y H Q => scal x y = true ∧ Q (.bl (decide (x = y))) H
def rNe : R2 := fun x y H Q => scal x y = true ∧ Q (.bl (!decide (x = y))) H

theorem dec_int {i j : Int} : decide (V.int i = V.int j) = (i == j) := by
  rw [Bool.eq_iff_iff]
  simp
theorem dec_bl {i j : Bool} : decide (V.bl i = V.bl j) = (i == j) := by
  rw [Bool.eq_iff_iff]
  simp
theorem dec_str {i j : Str} : decide (V.str i = V.str j) = (i == j) := by
  rw [Bool.eq_iff_iff]
  simp
theorem dec_byt {i j : Array UInt8} : decide (V.byt i = V.byt j) = (i.toList == j.toList) := by
  rw [Bool.eq_iff_iff]
  cases i
  cases j
  simp

section
variable {X : Cx} {a b c : Expr} {ta tb tc : TE} {pos : Pos}
theorem fin_bl {pins : List (Addr × Obj)} {σ : St} {H : Hp} {s : Shared} {Q : VK} {k k' : Bool} (I : Inv X pins σ H s) (q : Q (.bl k) H) (e : k = k') : EP X pins σ Q (.bool k') s := by
  subst e
  exact ⟨.bl k, H, I, rfl, q⟩
theorem op_eq : OpR X (compareOp .Eq) rEq := by
  intro pins s σ H x y v u Q I rx ry h
  obtain ⟨hs, q⟩ := h
  cases x with
  | non =>
    cases rx
    cases y with
    | non => cases ry; exact PySem.EqNone.eq_none_none (fin_bl I q (by simp))
    | bl j => cases ry; exact PySem.EqNone.eq_none_bool (fin_bl I q (by simp))
    | int j => obtain ⟨t', rfl⟩ := ry; exact PySem.EqNone.eq_none_int (fin_bl I q (by simp))
    | str j => obtain ⟨t', rfl⟩ := ry; exact PySem.EqNone.eq_none_str (fin_bl I q (by simp))
    | _ => exact absurd (show false = true from hs) Bool.false_ne_true
  | bl i =>
    cases rx
    cases y with
    | non => cases ry; exact PySem.EqNone.eq_bool_none (fin_bl I q (by simp))
    | bl j => cases ry; exact eq_bool (fin_bl I q dec_bl)
    | str j => obtain ⟨t', rfl⟩ := ry; exact PySem.EqMixed.eq_bool_str (fin_bl I q (by simp))
    | _ => exact absurd (show false = true from hs) Bool.false_ne_true
  | int i =>
    obtain ⟨t, rfl⟩ := rx
    cases y with
    | non => cases ry; exact PySem.EqNone.eq_int_none (fin_bl I q (by simp))
    | int j => obtain ⟨t', rfl⟩ := ry; exact eq_int (fin_bl I q dec_int)
    | str j => obtain ⟨t', rfl⟩ := ry; exact PySem.EqMixed.eq_int_str (fin_bl I q (by simp))
    | _ => exact absurd (show false = true from hs) Bool.false_ne_true
  | str i =>
    obtain ⟨t, rfl⟩ := rx
    cases y with
    | non => cases ry; exact PySem.EqNone.eq_str_none (fin_bl I q (by simp))
    | bl j => cases ry; exact PySem.EqMixed.eq_str_bool (fin_bl I q (by simp))
    | int j => obtain ⟨t', rfl⟩ := ry; exact PySem.EqMixed.eq_str_int (fin_bl I q (by simp))
    | str j => obtain ⟨t', rfl⟩ := ry; exact eq_str (fin_bl I q dec_str)
    | _ => exact absurd (show false = true from hs) Bool.false_ne_true
  | byt i =>
    obtain ⟨t, rfl⟩ := rx
    cases y with
    | byt j => obtain ⟨t', rfl⟩ := ry; exact PySem.W.eq_bytes (fin_bl I q dec_byt)
    | _ => exact absurd (show false = true from hs) Bool.false_ne_true
  | _ => cases y <;> exact absurd (show false = true from hs) Bool.false_ne_true
theorem op_ne : OpR X (compareOp .NotEq) rNe := by
  intro pins s σ H x y v u Q I rx ry h
  obtain ⟨hs, q⟩ := h
  cases x with
  | non =>
    cases rx
    cases y with
    | non => cases ry; exact PySem.EqNone.ne_none_none (fin_bl I q (by simp))
    | bl j => cases ry; exact PySem.EqNone.ne_none_bool (fin_bl I q (by simp))
    | int j => obtain ⟨t', rfl⟩ := ry; exact PySem.EqNone.ne_none_int (fin_bl I q (by simp))
    | str j => obtain ⟨t', rfl⟩ := ry; exact PySem.EqNone.ne_none_str (fin_bl I q (by simp))
    | _ => exact absurd (show false = true from hs) Bool.false_ne_true
  | bl i =>
    cases rx
    cases y with
    | non => cases ry; exact PySem.EqNone.ne_bool_none (fin_bl I q (by simp))
    | bl j => cases ry; exact ne_bool (fin_bl I q (congrArg not dec_bl))
    | str j => obtain ⟨t', rfl⟩ := ry; exact PySem.EqMixed.ne_bool_str (fin_bl I q (by simp))
    | _ => exact absurd (show false = true from hs) Bool.false_ne_true
  | int i =>
    obtain ⟨t, rfl⟩ := rx
    cases y with
    | non => cases ry; exact PySem.EqNone.ne_int_none (fin_bl I q (by simp))
    | int j => obtain ⟨t', rfl⟩ := ry; exact ne_int (fin_bl I q (congrArg not dec_int))
    | str j => obtain ⟨t', rfl⟩ := ry; exact PySem.EqMixed.ne_int_str (fin_bl I q (by simp))
    | _ => exact absurd (show false = true from hs) Bool.false_ne_true
  | str i =>
    obtain ⟨t, rfl⟩ := rx
    cases y with
    | non => cases ry; exact PySem.EqNone.ne_str_none (fin_bl I q (by simp))
    | bl j => cases ry; exact PySem.EqMixed.ne_str_bool (fin_bl I q (by simp))
    | int j => obtain ⟨t', rfl⟩ := ry; exact PySem.EqMixed.ne_str_int (fin_bl I q (by simp))
    | str j => obtain ⟨t', rfl⟩ := ry; exact ne_str (fin_bl I q (congrArg not dec_str))
    | _ => exact absurd (show false = true from hs) Bool.false_ne_true
  | byt i =>
    obtain ⟨t, rfl⟩ := rx
    cases y with
    | byt j => obtain ⟨t', rfl⟩ := ry; exact PySem.W.ne_bytes (fin_bl I q (congrArg not dec_byt))
    | _ => exact absurd (show false = true from hs) Bool.false_ne_true
  | _ => cases y <;> exact absurd (show false = true from hs) Bool.false_ne_true

theorem op_lt : OpR X (compareOp .Lt) (rI0 fun i j => .bl (decide (i < j))) := opB0 fun _ _ _ _ _ _ _ q => lt_int q
theorem op_le : OpR X (compareOp .LtE) (rI0 fun i j => .bl (decide (i ≤ j))) := opB0 fun _ _ _ _ _ _ _ q => le_int q
theorem op_gt : OpR X (compareOp .Gt) (rI0 fun i j => .bl (decide (j < i))) := opB0 fun _ _ _ _ _ _ _ q => gt_int q
theorem op_ge : OpR X (compareOp .GtE) (rI0 fun i j => .bl (decide (j ≤ i))) := opB0 fun _ _ _ _ _ _ _ q => ge_int q
theorem nomark (b : Expr) {op : CmpOp} (h : op ≠ .In := by decide) (h2 : op ≠ .NotIn := by decide) : behindInMarks op b = false := by
  have e1 : (op == CmpOp.In) = false := by cases op <;> first | rfl | exact absurd rfl h
  have e2 : (op == CmpOp.NotIn) = false := by cases op <;> first | rfl | exact absurd rfl h2
  cases b <;> simp [behindInMarks, e1, e2]
theorem pe_cmpR {op : CmpOp} {r : R2} (ho : OpR X (compareOp op) r) (ha : PE X a ta) (hb : PE X b tb) (hm : behindInMarks op b = false) : PE X (.Compare a [op] [b] pos) (tOp r ta tb) := by
  intro pins s σ H Q I h
  exact wpAny_Compare1 (binT ha hb I h fun v u s2 x y H2 I2 rx ry q => ho pins s2 σ H2 x y v u Q I2 rx ry q) hm
def tTest (t : TE) : TT := fun σ H Q => t σ H fun x H' => ∃ k, x = .bl k ∧ Q k H'
theorem pt_cmpR {op : CmpOp} {r : R2} (ho : OpR X (compareOp op) r) (ha : PE X a ta) (hb : PE X b tb) (hm : behindInMarks op b = false) : PT X (.Compare a [op] [b] pos) (tTest (tOp r ta tb)) := by
  intro pins s σ H Q I h
  refine wpAny_isTrue_Compare1 (thn (ha pins s σ H _ I h) fun v s1 ⟨x, H1, I1, r1, q1⟩ => thn (hb pins s1 σ H1 _ I1 q1) fun u s2 ⟨y, H2, I2, r2, q2⟩ =>
    thn (ho pins s2 σ H2 x y v u _ I2 r1 r2 q2) fun c s3 ⟨z, H3, I3, r3, k, e, q3⟩ => ?_) hm
  subst e
  cases r3
  exact wpAny_truthy_bool ⟨H3, I3, q3⟩
def tChain (r r' : R2) (ta tb tc : TE) : TE := fun σ H Q => ta σ H fun x H1 => tb σ H1 fun y H2 => r x y H2 fun z H3 => ∃ k, z = .bl k ∧
  (if k = true then tc σ H3 fun w' H4 => r' y w' H4 Q else Q (.bl false) H3)
theorem pe_chain {op op' : CmpOp} {r r' : R2} (ho : OpR X (compareOp op) r) (ho' : OpR X (compareOp op') r') (ha : PE X a ta) (hb : PE X b tb) (hc : PE X c tc)
    (hm : lastMarks [op, op'] [b, c] = false := by with_unfolding_all rfl) : PE X (.Compare a [op, op'] [b, c] pos) (tChain r r' ta tb tc) := by
  intro pins s σ H Q I h
  refine Compare_chain (thn (ha pins s σ H _ I h) fun v s1 ⟨x, H1, I1, r1, q1⟩ => chain_link (thn (hb pins s1 σ H1 _ I1 q1) fun u s2 ⟨y, H2, I2, r2, q2⟩ =>
    thn (ho pins s2 σ H2 x y v u _ I2 r1 r2 q2) fun d s3 ⟨z, H3, I3, r3, k, e, q3⟩ => ?_)) hm
  subst e
  cases r3
  refine wpAny_truthy_bool ?_
  cases k with
  | false => exact ite_ff ⟨.bl false, H3, I3, rfl, q3⟩
  | true => exact ite_tt (chain_last (thn (hc pins s3 σ H3 _ I3 q3) fun w' s4 ⟨z', H4, I4, r4, q4⟩ => ho' pins s4 σ H4 y z' u w' Q I4 r2 r4 q4))
def TruV (K : PySem.W.Frag) (x : V) (H : Hp) (k : Bool) : Prop :=
  match x with
  | .non => k = false
  | .bl b => k = b
  | .int i => k = (i != 0)
  | .str y => y.length ≤ sizeLine ∧ k = ((y.length : Int) != 0)
  | .byt y => y.size ≤ sizeLine ∧ k = ((y.size : Int) != 0)
  | .ref p => (∃ xs, SqL K H p xs ∧ k = !xs.isEmpty) ∨ (∃ xs, SqT K H p xs ∧ k = !xs.isEmpty) ∨ ∃ kvs, H p = some (.dK kvs) ∧ k = !kvs.isEmpty
  | _ => False
theorem isEmpty_kv {κ : Type} {kvs : List (κ × V)} {vs : List (κ × Value)} (r : KV kvs vs) : (!vs.isEmpty) = !kvs.isEmpty := by
  cases r <;> rfl
theorem isEmpty_of {xs : List V} {its : List Value} (r : Vals xs its) : (!its.toArray.isEmpty) = !xs.isEmpty := by
  cases r <;> simp
theorem line63 : (sizeLine : Nat) < 2 ^ 63 := by rw [sizeLine_eq]; decide
theorem tru_ok : TruR X (fun x H Q => ∃ k, TruV X.K x H k ∧ Q k H) := by
  intro pins s σ H x v Q I rx h
  obtain ⟨k, e, q⟩ := h
  have hl := line63
  have hs : sizeLine = 16777216 := sizeLine_eq
  cases x with
  | non =>
    cases rx
    have e' : k = false := e
    subst e'
    exact truthy_none ⟨H, I, q⟩
  | bl b =>
    cases rx
    have e' : k = b := e
    subst e'
    exact wpAny_truthy_bool ⟨H, I, q⟩
  | int i =>
    obtain ⟨t, rfl⟩ := rx
    have e' : k = (i != 0) := e
    subst e'
    exact PySem.P.truthy_int ⟨H, I, q⟩
  | str y =>
    obtain ⟨t, rfl⟩ := rx
    obtain ⟨hy, e'⟩ : y.length ≤ sizeLine ∧ k = ((y.length : Int) != 0) := e
    subst e'
    exact PySem.P.truthy_str (by omega) ⟨H, I.tok _, q⟩
  | byt y =>
    obtain ⟨t, rfl⟩ := rx
    obtain ⟨hy, e'⟩ : y.size ≤ sizeLine ∧ k = ((y.size : Int) != 0) := e
    subst e'
    exact PySem.W.truthy_bytes (by omega) ⟨H, I.tok _, q⟩
  | ref p =>
    cases rx
    have e' : (∃ xs, SqL X.K H p xs ∧ k = !xs.isEmpty) ∨ (∃ xs, SqT X.K H p xs ∧ k = !xs.isEmpty) ∨ ∃ kvs, H p = some (.dK kvs) ∧ k = !kvs.isEmpty := e
    rcases e' with ⟨xs, hx, e'⟩ | ⟨xs, hx, e'⟩ | ⟨kvs, hx, e'⟩
    · subst e'
      obtain ⟨its, r, pl, hz⟩ := I.list hx
      have hlen := r.length
      exact wpAny_truthy_list pl.isList (by simp only [List.size_toArray]; omega) ⟨H, I.tok _, by rw [isEmpty_of r]; exact q⟩
    · subst e'
      obtain ⟨its, r, pl, hz⟩ := I.tuple hx
      have hlen := r.length
      exact truthy_tuple pl (by simp only [List.size_toArray]; omega) ⟨H, I.tok _, by rw [isEmpty_of r]; exact q⟩
    · subst e'
      obtain ⟨hz, hS, vs, r, m⟩ : kvs.length ≤ sizeLine ∧ (p == sysModules) = false ∧ ∃ vs, KV kvs vs ∧ s.heap.DictOf (mixKind X.prog X.w) p vs := I.hok p _ hx
      have hlen : kvs.length = vs.length := Paired.length r
      exact wpAny_truthy_dict hS m (by omega) ⟨H, I.tok _, by rw [isEmpty_kv r]; exact q⟩
  | _ => exact (show False from e).elim
theorem pt_truth (ha : PE X a ta) (he : ∀ whole, isTrue a X.env whole = (do let v ← whole; standAt a.pos; holding [v] (truthy v))) :
    PT X a (fun σ H Q => ta σ H fun x H' => ∃ k, TruV X.K x H' k ∧ Q k H') := by
  intro pins s σ H Q I h
  refine isTrue_plain (thn (ha pins s σ H _ I h) fun v s1 hx9 => ?_) (he _)
  obtain ⟨x, H1, I1, r1, q1⟩ := hx9
  exact tru_ok pins s1 σ H1 x v Q I1 r1 q1

theorem vals1 {x : V} {us : List Value} (r : Vals [x] us) : ∃ u, us = [u] ∧ RelV x u := by
  cases r with
  | cons r1 r2 => cases r2; exact ⟨_, rfl, r1⟩
theorem vals2 {x y : V} {us : List Value} (r : Vals [x, y] us) : ∃ u w', us = [u, w'] ∧ RelV x u ∧ RelV y w' := by
  cases r with
  | cons r1 r2 =>
    cases r2 with
    | cons r3 r4 => cases r4; exact ⟨_, _, rfl, r1, r3⟩
theorem call_max2 (hc : X.calm = true) : CallR X (.builtin "max") (fun xs H Q => ∃ i j, xs = [.int i, .int j] ∧ Q (.int (if j > i then j else i)) H) := by
  intro pins s σ H xs us Q I r h
  obtain ⟨i, j, rfl, q⟩ := h
  obtain ⟨u, w', rfl, ⟨t, rfl⟩, ⟨t', rfl⟩⟩ := vals2 r
  refine max_two_ints (I.ok.hd hc) fun h' tk k => ⟨_, H, I.kept k, ?_, q⟩
  by_cases hj : j > i
  · rw [if_pos hj, if_pos hj]; exact ⟨_, rfl⟩
  · rw [if_neg hj, if_neg hj]; exact ⟨_, rfl⟩
theorem call_min2 (hc : X.calm = true) : CallR X (.builtin "min") (fun xs H Q => ∃ i j, xs = [.int i, .int j] ∧ Q (.int (if j < i then j else i)) H) := by
  intro pins s σ H xs us Q I r h
  obtain ⟨i, j, rfl, q⟩ := h
  obtain ⟨u, w', rfl, ⟨t, rfl⟩, ⟨t', rfl⟩⟩ := vals2 r
  refine min_two_ints (I.ok.hd hc) fun h' tk k => ⟨_, H, I.kept k, ?_, q⟩
  by_cases hj : j < i
  · rw [if_pos hj, if_pos hj]; exact ⟨_, rfl⟩
  · rw [if_neg hj, if_neg hj]; exact ⟨_, rfl⟩
end
end L2

namespace L2
open PySem PySem.Spec PyProof.Rows

structure ObjM (h : Heap) (x dx C : Addr) (mA : Str → Option Value) : Prop where
  obj : h.get? x = some (PySem.W.instObj C dx)
  ns : h.Ns1 dx mA
  ne : dx ≠ x

section
variable {prog : Program} {w : World} {A : Around} {E : Value → Shared → Prop} {s : Shared} {K : PySem.W.Frag} {x dx C f : Addr} {mA : Str → Option Value} {name : Str} {v : Value}

end

section
variable {P : Program} {w : World} {H H' : Hp} {h h' : Heap} {a C dx : Addr} {fs fs' : List (Str × V)}
end

structure Cls (K : PySem.W.Frag) (C : Addr) : Prop where
  pg : PySem.W.plainGet K C Str.empty = true
  hd : PySem.W.hasDictIn K C = true
  po : PySem.W.plainOver K C = true
  sa : PySem.W.findIn K (.ref C) "__setattr__" = some (some (.builtin "object.__setattr__"))
theorem Cls.get {K : PySem.W.Frag} {C : Addr} (c : Cls K C) (f : Str) : PySem.W.plainGet K C f = true := c.pg
structure Con (K : PySem.W.Frag) (C : Addr) (f : Str) (v : V) (u : Value) : Prop where
  at_ : PySem.W.findIn K (.ref C) f = some (some u)
  rel : RelV v u
  get : PySem.W.specialIn K u "__get__" = some none
  cp : PySem.W.copiedNames.contains f = false
structure Meth (K : PySem.W.Frag) (C : Addr) (m : Str) (f : Addr) : Prop where
  at_ : PySem.W.findIn K (.ref C) m = some (some (.ref f))
  fn : PySem.W.isFn K (.ref f) = true
  kp : PySem.W.keepIn K (.ref f) = true

section
variable {X : Cx} {pins : List (Addr × Obj)} {σ : St} {H : Hp} {s : Shared} {a C dx : Addr} {fs : List (Str × V)} {f : Str} {v : V} {A : Around} {E : Value → Shared → Prop}

end

section
variable {X : Cx} {o e value : Expr} {f : Str} {pos pos' tpos : Pos} {ta tv : TE}
end

section
variable {X : Cx} {pins : List (Addr × Obj)} {σ : St} {H : Hp} {s : Shared} {A : Around} {E : Value → Shared → Prop} {Q : Value → Shared → Prop} {c : Value} {b : Bool}
inductive TyOf (K : PySem.W.Frag) (H : Hp) : V → Value → Prop where
  | non : TyOf K H .non (.type "NoneType")
  | bl (x : Bool) : TyOf K H (.bl x) (.type "bool")
  | int (i : Int) : TyOf K H (.int i) (.type "int")
  | str (x : Str) : TyOf K H (.str x) (.type "str")
  | flt (x : UInt64) : TyOf K H (.flt x) (.type "float")
  | lst {a : Addr} {xs : List V} (e : H a = some (.lst xs)) : TyOf K H (.ref a) (.type "list")
  | frz {a : Addr} {o : Obj} {xs : List V} (e : H a = some (.frz o (.lst xs))) : TyOf K H (.ref a) (.type "list")
  | tup {a : Addr} {xs : List V} (e : H a = some (.tup xs)) : TyOf K H (.ref a) (.type "tuple")
  | dK {a : Addr} {kvs : List (Key × V)} (e : H a = some (.dK kvs)) : TyOf K H (.ref a) (.type "dict")
  | dT {a : Addr} {kvs : List (List Key × V)} (e : H a = some (.dT kvs)) : TyOf K H (.ref a) (.type "dict")
  | ins {a C dx : Addr} {fs : List (Str × V)} (e : H a = some (.ins C dx fs)) (cl : Cls K C) (ha : PySem.W.findIn K (.ref C) "__class__" = some (some (.builtin "object.__class__")))
      (hn : PySem.W.specialIn K (.builtin "object.__class__") "__get__" = some (some (.builtin "getset_descriptor.__get__"))) (htk : PySem.W.takesIn K (.builtin "object.__class__") = some true)
      (hm : PySem.W.mroIn K C (.type "object") = some true) : TyOf K H (.ref a) (.ref C)
end
end L2

namespace L2
open PySem PySem.Spec PyProof.Rows

structure Room (k : Nat) (A : Around) : Prop where
  hd : A.handled = none
  dp : A.depth + 3 * k + 5 < recursionLimit
  un : A.units + 16 * k + 200 < cLine
  gd : A.guards = some []
theorem Room.mono {j k : Nat} {A : Around} (r : Room k A) (h : j ≤ k) : Room j A := ⟨r.hd, by have := r.dp; omega, by have := r.un; omega, r.gd⟩
theorem Room.deeper {k : Nat} {A : Around} (r : Room (k + 1) A) (env : Env) : Room k (A.deeper env) :=
  ⟨r.hd, by have := r.dp; show A.depth + 1 + 3 * k + 5 < _; omega, by have := r.un; show A.units + 3 + 16 * k + 200 < _; omega, r.gd⟩
theorem Room.in1 {k : Nat} {A : Around} (r : Room (k + 1) A) : Room k A.in1 :=
  ⟨r.hd, by have := r.dp; show A.depth + 3 * k + 5 < _; omega, by have := r.un; show A.units + 1 + 16 * k + 200 < _; omega, r.gd⟩
theorem Room.depth {k : Nat} {A : Around} (r : Room k A) : A.depth < recursionLimit := by have := r.dp; omega
theorem Room.units {k : Nat} {A : Around} (r : Room k A) : A.units + 64 < cLine := by have := r.un; omega
abbrev tNil : TA := fun _ H Q => Q [] H
abbrev tCons (ta : TE) (tr : TA) : TA := fun σ H Q => ta σ H fun x H1 => tr σ H1 fun xs H2 => Q (x :: xs) H2
section
variable {X : Cx} {e : Expr} {es : List Expr} {te : TE} {t : TA} {pos : Pos}
theorem pa_nil : PA X [] tNil := fun _ _ _ _ H Q I h => Calls.spliced_nil ⟨[], H, I, .nil, h⟩
theorem pa_cons (ha : PE X e te) (hr : PA X es t) (hs : starEach (e :: es) X.env = (false, eval e X.env) :: starEach es X.env := by rfl) : PA X (e :: es) (tCons te t) := by
  intro pos pins s σ H Q I h
  rw [hs]
  show wpAny _ _ (spliced ((false, eval e X.env) :: backTo pos (starEach es X.env))) _ _ s
  refine Calls.spliced_cons (thn (ha pins s σ H _ I h) fun u s1 hx9 => ?_)
  obtain ⟨x, H1, I1, r1, q1⟩ := hx9
  refine thn (hr pos pins s1 σ H1 _ I1 q1) fun us s2 hx9 => ?_
  obtain ⟨xs, H2, I2, r2, q2⟩ := hx9
  exact ⟨x :: xs, H2, I2, .cons r1 r2, q2⟩

def tTup (t : TA) : TE := fun σ H Q => t σ H fun xs H1 => xs.length ≤ sizeLine ∧ ∀ p, H1 p = none → Q (.ref p) (upd H1 p (.tup xs))
def tLst (t : TA) : TE := fun σ H Q => t σ H fun xs H1 => xs.length ≤ sizeLine ∧ ∀ p, H1 p = none → Q (.ref p) (upd H1 p (.lst xs))
theorem pe_tup {x1} (h : PA X es t) : PE X (.Tuple es x1 pos) (tTup t) := by
  intro pins s σ H Q I hq
  refine wpAny_Tuple_spliced (thn (h pos pins s σ H _ I hq) fun us s1 ⟨xs, H1, I1, r, z, q⟩ => ⟨by rw [← r.length]; exact z, ?_⟩)
  have hf : H1 s1.heap.objs.size = none := I1.hok.fresh (Nat.le_refl _)
  refine ⟨.ref s1.heap.objs.size, upd H1 s1.heap.objs.size (.tup xs), I1.laid (t' := s1.toks) (fun b u e => Heap.get?_push_of_some _ e) (Nat.le_refl _) ?_, rfl, q _ hf⟩
  exact ⟨z, us, 0, r, Heap.get?_push_size _ rfl⟩
theorem pe_lst (h : PA X es t) : PE X (.List es pos) (tLst t) := by
  intro pins s σ H Q I hq
  refine wpAny_List_spliced (thn (h pos pins s σ H _ I hq) fun us s1 ⟨xs, H1, I1, r, z, q⟩ => ⟨by rw [← r.length]; exact z, ?_⟩)
  have hf : H1 s1.heap.objs.size = none := I1.hok.fresh (Nat.le_refl _)
  refine ⟨.ref s1.heap.objs.size, upd H1 s1.heap.objs.size (.lst xs), I1.laid (t' := s1.toks) (fun b u e => Heap.get?_push_of_some _ e) (Nat.le_refl _) ?_, rfl, q _ hf⟩
  exact ⟨z, us, 0, r, Heap.get?_push_size _ rfl⟩
end

abbrev Sp := List V → Hp → VK → XK → Prop
abbrev CXT := List Env → Hp → Shared → XK → Value → Shared → Prop

structure Env0 (P : Program) (w : World) (K : PySem.W.Frag) (mg : Str → Option Value) (base : Heap) (A : Around) (outer : List Env) (s : Shared) (H : Hp) : Prop where
  frames : A.frames = some outer
  mod : Mod K mg base
  bs : ∀ b o, base.get? b = some o → s.heap.get? b = some o ∧ H b = none
  bsz : base.objs.size ≤ s.heap.objs.size
  funs : s.heap.FunFrames base outer
  frf : ∀ b ∈ frs outer, H b = none
  hok : HOk P w H s.heap
  bare : AllBare s.gens
def CE (outer : List Env) (P : Program) (w : World) (H : Hp) (s : Shared) (Q : VK) (u : Value) (s' : Shared) : Prop :=
  ∃ v H', s'.os = s.os ∧ AllBare s'.gens ∧ Un (frs outer) [] H H' s.heap s'.heap ∧ HOk P w H' s'.heap ∧ RelV v u ∧ Q v H'
def CR (CX : CXT) (outer : List Env) (P : Program) (w : World) (H : Hp) (s : Shared) (Q : VK) (E : XK) (r : Result) (s' : Shared) : Prop :=
  match r with
  | .ok (.ret u) => CE outer P w H s Q u s'
  | .ok _ => False
  | .error e => CX outer H s E e s'
structure FnOk (P : Program) (w : World) (K : PySem.W.Frag) (mg : Str → Option Value) (base : Heap) (CX : CXT) (k : Nat) (f : Addr) (fd : FuncData) (ps : List Str) (sp : Sp) : Prop where
  len : ∀ vs H Q E, sp vs H Q E → vs.length = ps.length
  run : ∀ (A : Around) (outer : List Env) (s : Shared) (H : Hp) (args : Args) (us : List Value) (vs : List V) (Q : VK) (E : XK), Room k A → Env0 P w K mg base A outer s H → BindsTo s fd args (ps.zip us) → Vals vs us → sp vs H Q E →
    codeAny (model P w) A (.call (.ref f) args) (CR CX outer P w H s Q E) s
theorem FnOk.mono {P : Program} {w : World} {K : PySem.W.Frag} {mg : Str → Option Value} {base : Heap} {CX : CXT} {j k : Nat} {f : Addr} {fd : FuncData} {ps : List Str} {sp : Sp} (F : FnOk P w K mg base CX j f fd ps sp) (h : j ≤ k) :
    FnOk P w K mg base CX k f fd ps sp := ⟨F.len, fun A outer s H args us vs Q E hr => F.run A outer s H args us vs Q E (hr.mono h)⟩
theorem FnOk.imp {P : Program} {w : World} {K : PySem.W.Frag} {mg : Str → Option Value} {base : Heap} {CX : CXT} {k : Nat} {f : Addr} {fd : FuncData} {ps : List Str} {sp sp' : Sp} (F : FnOk P w K mg base CX k f fd ps sp)
    (h : ∀ vs H Q E, sp' vs H Q E → sp vs H Q E) : FnOk P w K mg base CX k f fd ps sp' :=
  ⟨fun vs H Q E q => F.len vs H Q E (h _ _ _ _ q), fun A outer s H args us vs Q E hr he hb hv hs => F.run A outer s H args us vs Q E hr he hb hv (h _ _ _ _ hs)⟩

theorem Env0.in1 {P : Program} {w : World} {K : PySem.W.Frag} {mg : Str → Option Value} {base : Heap} {A : Around} {outer : List Env} {s : Shared} {H : Hp} (e : Env0 P w K mg base A outer s H) :
    Env0 P w K mg base A.in1 outer s H := ⟨e.frames, e.mod, e.bs, e.bsz, e.funs, e.frf, e.hok, e.bare⟩

section
variable {X : Cx} {pins : List (Addr × Obj)} {σ : St} {H : Hp} {s s' : Shared}
theorem Inv.env0 (I : Inv X pins σ H s) : Env0 X.prog X.w X.K X.mg X.base X.A X.stack s H :=
  ⟨I.ok.frames, I.ok.mod, I.bs, Nat.le_trans I.ok.bsz I.sz, I.stack, I.stkFree, I.hok, I.bare⟩
theorem Inv.after {Q : VK} {u : Value} (I : Inv X pins σ H s) (h : CE X.stack X.prog X.w H s Q u s') : EP X pins σ Q u s' := by
  obtain ⟨v, H', os, bare, un, hok, r, q⟩ := h
  obtain ⟨hh, g, d, t, os'⟩ := s'
  obtain rfl : os' = s.os := os
  exact ⟨v, H', I.call (h' := hh) (g' := g) (d' := d) (t' := t) (ch := []) un hok bare (fun b z => absurd z (by simp)), r, q⟩
end

def tCall (sp : Sp) (dvs : List V) (E : XK) (t : TA) : TE := fun σ H Q => t σ H fun vs H1 => sp (vs ++ dvs) H1 Q E
def Binds (K : PySem.W.Frag) (fd : FuncData) (ps : List Str) (ds : List Value) : Prop :=
  ∀ (s : Shared) (us : List Value), K.In s.heap → (us ++ ds).length = ps.length → BindsTo s fd ⟨us, []⟩ (ps.zip (us ++ ds))
theorem Binds.all {K : PySem.W.Frag} {fd : FuncData} {ps : List Str} (h : ∀ us : List Value, us.length = ps.length → bindArgs fd ⟨us, []⟩ = pure (ps.zip us)) : Binds K fd ps [] := fun s us _ hl => by
  rw [List.append_nil] at hl ⊢
  exact .of_eq (h us hl)

def Passes (CX : CXT) (X : Cx) (E : XK) : Prop := ∀ (pins : List (Addr × Obj)) (σ : St) (H : Hp) (s : Shared) (e : Value) (s' : Shared), Inv X pins σ H s → CX X.stack H s E e s' → X.xe e s'

section
variable {X : Cx} {CX : CXT} {k : Nat} {f C : Addr} {fd : FuncData} {ps : List Str} {sp : Sp} {dvs : List V} {ds : List Value} {E : XK} {x m : Str} {p pos apos : Pos} {e o : Expr} {es : List Expr} {ta : TE} {t : TA}

theorem run_fn {pins : List (Addr × Obj)} {σ : St} {H : Hp} {s : Shared} {Q : VK} {us : List Value} {vs : List V} (F : FnOk X.prog X.w X.K X.mg X.base CX k f fd ps sp) (hr : Room k X.A) (hb : Binds X.K fd ps ds) (hd : Vals dvs ds) (hx : Passes CX X E)
    (I : Inv X pins σ H s) (r : Vals vs us) (h : sp (vs ++ dvs) H Q E) : wpAny (model X.prog X.w) X.A (call (.ref f) us) (EP X pins σ Q) X.xe s := by
  have r2 : Vals (vs ++ dvs) (us ++ ds) := r.append hd
  have hl : (us ++ ds).length = ps.length := by rw [← r2.length]; exact F.len _ _ _ _ h
  refine wpAny_call (codeAny_mono (F.run X.A X.stack s H ⟨us, []⟩ (us ++ ds) (vs ++ dvs) Q E hr I.env0 (hb s us I.kIn hl) r2 h) fun r s' hq => ?_)
  cases r with
  | error e => exact hx pins σ H s e s' I hq
  | ok fl =>
    cases fl with
    | ret u => exact I.after hq
    | next => exact False.elim hq
    | brk => exact False.elim hq
    | cont => exact False.elim hq

theorem pe_call (F : FnOk X.prog X.w X.K X.mg X.base CX k f fd ps sp) (hr : Room k X.A) (hg : Gl X x) (hm : X.mg x = some (.ref f)) (hk : PySem.W.keepIn X.K (.ref f) = true) (hb : Binds X.K fd ps ds) (hd : Vals dvs ds) (hx : Passes CX X E)
    (ha : PA X (e :: es) t) (hdb : (x == ("__debug__" : Str)) = false := by decide) (he : starEach (e :: es) X.env = (false, eval e X.env) :: starEach es X.env := by rfl) (hpl : (backTo pos (starEach es X.env)).any (·.1) = false := by rfl) :
    PE X (.Call (.Name x p) (e :: es) [] pos) (tCall sp dvs E t) := by
  intro pins s σ H Q I h
  refine wpAny_Call_Name_kw (ld_glob I hg hm ?_ hdb)
  refine PySem.W.callWith_K (h₀ := X.base) I.ok.mod.kin hk (thn (ha pos pins s σ H _ I h) fun us s1 ⟨vs, H1, I1, r, q⟩ => ⟨I1.kIn, ?_⟩) he hpl
  exact run_fn F hr hb hd hx I1 r q
structure Mk (K : PySem.W.Frag) (C f : Addr) : Prop where
  makes : PySem.W.makesIn K C = true
  init : PySem.W.findIn K (.ref C) "__init__" = some (some (.ref f))
  fn : PySem.W.isFn K (.ref f) = true
  kp : PySem.W.keepIn K (.ref C) = true

end

section
variable {X : Cx} {CX : CXT} {k : Nat} {f C : Addr} {fd : FuncData} {ps ks : List Str} {sp : Sp} {E : XK} {x m : Str} {p pos apos kpos : Pos} {e o : Expr} {es : List Expr} {kws : List Keyword} {te ta : TE} {t tk : TA} {nm : Option Str}
structure KBinds (K : PySem.W.Frag) (fd : FuncData) (ps ks : List Str) (g : List Value → List Value → List Value) (gV : List V → List V → List V) : Prop where
  to : ∀ (s : Shared) (us ws : List Value), K.In s.heap → (g us ws).length = ps.length → BindsTo s fd ⟨us, ks.zip ws⟩ (ps.zip (g us ws))
  rel : ∀ {vs : List V} {us : List Value} {zs : List V} {ws : List Value}, Vals vs us → Vals zs ws → Vals (gV vs zs) (g us ws)
variable {g : List Value → List Value → List Value} {gV : List V → List V → List V}
end

structure FnScope (N P : List Str) (sc : Scope) : Prop where
  kind : sc.kind = .function
  co : sc.isCoroutine = false
  gen : sc.isGenerator = false
  nd : N.Nodup
  pre : N.take P.length = P
  par : ∀ x ∈ P, sc.names.lookup x = some .local ∨ sc.names.lookup x = some .cell
  nofree : ∀ y ∈ sc.names, y.2 ≠ .free

theorem bindL_out {kindOf : Str → Option NameKind} {x : Str} : ∀ {binds : List (Str × Value)} {m : Str → Option Value}, (∀ v, (x, v) ∉ binds) → bindL kindOf binds m x = m x
  | [], _, _ => rfl
  | (n, v) :: r, m, h => by
    unfold bindL
    rw [bindL_out fun w hw => h w (List.mem_cons_of_mem _ hw)]
    split
    · have : x ≠ n := by rintro rfl; exact h v List.mem_cons_self
      simp [this]
    · rfl
theorem bindC_out {kindOf : Str → Option NameKind} {x : Str} : ∀ {binds : List (Str × Value)} {m : Str → Option Value}, (∀ v, (x, v) ∉ binds) → bindC kindOf binds m x = m x
  | [], _, _ => rfl
  | (n, v) :: r, m, h => by
    unfold bindC
    rw [bindC_out fun w hw => h w (List.mem_cons_of_mem _ hw)]
    split
    · rfl
    · have : x ≠ n := by rintro rfl; exact h v List.mem_cons_self
      simp [this]
theorem bindL_get {kindOf : Str → Option NameKind} {x : Str} {v : Value} : ∀ {P : List Str} {vs : List Value} {i : Nat} {m : Str → Option Value}, P.Nodup → P[i]? = some x → vs[i]? = some v → kindOf x = some .local →
    bindL kindOf (P.zip vs) m x = some v
  | [], _, _, _, _, h, _, _ => by simp at h
  | _ :: _, [], _, _, _, _, h, _ => by simp at h
  | p :: P, w :: vs, 0, m, nd, h1, h2, hk => by
    simp at h1 h2; subst h1; subst h2
    show bindL kindOf ((p, w) :: P.zip vs) m p = _
    unfold bindL
    rw [bindL_out fun v hv => (List.nodup_cons.mp nd).1 (List.of_mem_zip hv).1, if_pos hk]
    simp
  | p :: P, w :: vs, i + 1, m, nd, h1, h2, hk => by
    show bindL kindOf ((p, w) :: P.zip vs) m x = _
    unfold bindL
    exact bindL_get (i := i) (List.nodup_cons.mp nd).2 (by simpa using h1) (by simpa using h2) hk
theorem bindC_get {kindOf : Str → Option NameKind} {x : Str} {v : Value} : ∀ {P : List Str} {vs : List Value} {i : Nat} {m : Str → Option Value}, P.Nodup → P[i]? = some x → vs[i]? = some v → kindOf x ≠ some .local →
    bindC kindOf (P.zip vs) m x = some v
  | [], _, _, _, _, h, _, _ => by simp at h
  | _ :: _, [], _, _, _, _, h, _ => by simp at h
  | p :: P, w :: vs, 0, m, nd, h1, h2, hk => by
    simp at h1 h2; subst h1; subst h2
    show bindC kindOf ((p, w) :: P.zip vs) m p = _
    unfold bindC
    rw [bindC_out fun v hv => (List.nodup_cons.mp nd).1 (List.of_mem_zip hv).1, if_neg hk]
    simp
  | p :: P, w :: vs, i + 1, m, nd, h1, h2, hk => by
    show bindC kindOf ((p, w) :: P.zip vs) m x = _
    unfold bindC
    exact bindC_get (i := i) (List.nodup_cons.mp nd).2 (by simpa using h1) (by simpa using h2) hk

def start (N : List Str) (vs : List V) : St := vs.map some ++ List.replicate (N.length - vs.length) none

def cxOf (CX : CXT) (P : Program) (w : World) (K : PySem.W.Frag) (mg : Str → Option Value) (base : Heap) (N : List Str) (qual : Str) (scope : Scope) (f : Addr) (cd : Value) (A : Around) (outer : List Env) (s : Shared) (H : Hp) (E : XK) : Cx where
  prog := P
  w := w
  K := K
  mg := mg
  base := base
  A := A.deeper (envOfC qual scope s.heap.objs.size f cd)
  N := N
  s₀ := s
  H₀ := H
  env := envOfC qual scope s.heap.objs.size f cd
  outer := outer
  stack := envOfC qual scope s.heap.objs.size f cd :: outer
  ex := []
  calm := true
  fn := fun _ => true
  pn := []
  xe := fun e s' => wpAny (model P w) (A.deeper (envOfC qual scope s.heap.objs.size f cd)) (leaving (envOfC qual scope s.heap.objs.size f cd) e) (fun _ s'' => CX outer H s E e s'') (fun e' s'' => CX outer H s E e' s'') s'

theorem cell_has {sc : Scope} {n : Nat} {x : Str} (h : sc.names.lookup x = some .cell) : ∃ c, (cellsFrom n sc.names []).lookup x = some c := by
  have q := PySem.W.cellsFrom_some sc.names n [] (.inl h)
  exact Option.isSome_iff_exists.mp q

theorem inv_start {CX : CXT} {P : Program} {w : World} {K : PySem.W.Frag} {mg : Str → Option Value} {base : Heap} {N ps : List Str} {qual : Str} {scope : Scope} {f : Addr} {cd : Value} {A : Around} {outer : List Env} {s s1 : Shared} {H : Hp} {E : XK} {us : List Value} {vs : List V}
    (S : FnScope N ps scope) (hd : A.handled = none) (e0 : Env0 P w K mg base A outer s H) (hl : vs.length = ps.length) (r : Vals vs us)
    (x : InCallC s s.heap.objs.size (bindL (envOfC qual scope s.heap.objs.size f cd).kindOf (ps.zip us) fun _ => none) (cellsFrom (s.heap.objs.size + 1) scope.names []) (bindC (envOfC qual scope s.heap.objs.size f cd).kindOf (ps.zip us) fun _ => none) s1) :
    Inv (cxOf CX P w K mg base N qual scope f cd A outer s H E) [] (start N vs) H s1 := by
  have hpl : ps.length ≤ N.length := by have := congrArg List.length S.pre; rw [List.length_take] at this; omega
  obtain ⟨h1, tk, rfl, hk⟩ := x.done
  have noA : ∀ b : Addr, b ∉ (cxOf CX P w K mg base N qual scope f cd A outer s H E).ex := fun b z => absurd (show b ∈ ([] : List Addr) from z) (by simp)
  refine ⟨⟨e0.mod, S.kind, rfl, rfl, Nat.le_refl _, fun y z c h1 h2 => ?_, fun y hy => ?_, fun y c _ h => ?_, fun _ => hd, Around.frames_deeper e0.frames, .inr ⟨rfl, rfl⟩, fun b z => absurd z (noA b), e0.bs, e0.bsz, fun b _ _ => noA b, fun b z => absurd z (noA b), e0.funs, e0.frf⟩,
    rfl, e0.bare, Un.kept hk, ⟨_, x.toInCall.ns, fun i y v h1 h2 h3 => ?_⟩, fun y c h => ⟨_, x.cell y c h⟩, e0.hok.fresh (Nat.le_refl _), fun y c h => ?_, fun p hp => absurd (show p ∈ ([] : List (Addr × Obj)) from hp) (by simp), e0.hok.kept hk, ?_⟩
  · exact name_of_addr x.apart (PySem.mem_of_lookup h1) (PySem.mem_of_lookup h2)
  · have hy : scope.names.lookup y = some .cell ∨ scope.names.lookup y = some .free := hy
    rcases hy with hy | hy
    · exact cell_has hy
    · exact absurd rfl (S.nofree _ (PySem.mem_of_lookup hy))
  · exact Nat.le_of_lt (x.above y c (PySem.mem_of_lookup h))
  · have hi : i < vs.length := by
      unfold start at h2
      by_cases hi : i < vs.length
      · exact hi
      · rw [List.getElem?_append_right (by simpa using hi)] at h2
        rw [List.getElem?_replicate] at h2
        split at h2 <;> cases h2
    have ha : vs[i]? = some v := by
      unfold start at h2
      rw [List.getElem?_append_left (by simpa using hi), List.getElem?_map] at h2
      cases e : vs[i]? with
      | none => rw [e] at h2; cases h2
      | some a => rw [e] at h2; cases h2; rfl
    obtain ⟨u, hu, rv⟩ := r.get ha
    have hp : ps[i]? = some y := by
      rw [← S.pre, List.getElem?_take_of_lt (by omega)]; exact h1
    have ndP : ps.Nodup := by rw [← S.pre]; exact S.nd.sublist (List.take_sublist _ _)
    refine ⟨u, rv, ?_⟩
    rcases S.par y (List.mem_of_getElem? hp) with k | k
    · exact .inl ⟨k, bindL_get ndP hp hu k⟩
    · obtain ⟨c, e⟩ := cell_has (n := s.heap.objs.size + 1) k
      refine .inr ⟨.inl k, c, e, ?_⟩
      have q := x.cell y c e
      rw [bindC_get ndP hp hu (by show scope.names.lookup y ≠ _; rw [k]; decide)] at q
      exact q
  · exact e0.hok.fresh (Nat.le_of_lt (x.above y c (PySem.mem_of_lookup h)))
  · unfold start
    show _ = N.length
    rw [List.length_append, List.length_map, List.length_replicate]
    omega

theorem fn_of {CX : CXT} {P : Program} {w : World} {K : PySem.W.Frag} {mg : Str → Option Value} {base : Heap} {k : Nat} {f : Addr} {name qual : Str} {params : Arguments} {body : List Stmt} {scope : Scope} {dV kV doc pm cdv ct oc : Value} {an od : Option Addr}
    {osl : Array (Option Value)} {N ps : List Str} {sp : Sp} (lk : K.lookup f = some ⟨oc, od, .func (PySem.W.fnOf name qual params body scope dV kV doc pm an cdv ct), osl⟩) (hcd : PySem.W.codeIn K cdv qual = true) (S : FnScope N ps scope)
    (len : ∀ vs H Q E, sp vs H Q E → vs.length = ps.length)
    (hbody : ∀ (A : Around) (outer : List Env) (s : Shared) (H : Hp) (vs : List V) (Q : VK) (E : XK), Room k (A.deeper (envOfC qual scope s.heap.objs.size f cdv)) → sp vs H Q E →
      ∃ t, PSs (cxOf CX P w K mg base N qual scope f cdv A outer s H E) body t ∧ t { nx := fun _ H' => Q .non H', rt := Q } (start N vs) H) :
    FnOk P w K mg base CX (k + 1) f (PySem.W.fnOf name qual params body scope dV kV doc pm an cdv ct) ps sp := by
  refine ⟨len, fun A outer s H args us vs Q E hr e0 hb r hsp => ?_⟩
  have hl := len _ _ _ _ hsp
  have KX : K.In s.heap := e0.mod.kin.keeps fun b o e => (e0.bs b o e).1
  have lim : s.heap.NoLimit := e0.mod.nolimit.keeps fun b o e => (e0.bs b o e).1
  have hkind : ∀ y ∈ ps.zip us, scope.names.lookup y.1 = some .local ∨ (scope.names.lookup y.1 = some .cell ∧ ((cellsFrom (s.heap.objs.size + 1) scope.names []).lookup y.1).isSome = true) := fun ⟨n, v⟩ hy => by
    rcases S.par n (List.of_mem_zip hy).1 with q | q
    · exact .inl q
    · exact .inr ⟨q, PySem.W.cellsFrom_some _ _ _ (.inl q)⟩
  refine codeAny_call_function hr.depth (KX _ _ lk) rfl S.co S.gen rfl (PySem.W.codeRec_of KX hcd) (hb _ _ _ _ ?_)
  refine wpAny_newFunctionEnv_cells S.kind hkind fun env he s1 x => ?_
  subst he
  refine ⟨lim.keeps x.toInCall.keep, codeAny_func ?_⟩
  obtain ⟨t, ht, hq⟩ := hbody A outer s H vs Q E (hr.deeper _) hsp
  have I : Inv (cxOf CX P w K mg base N qual scope f cdv A outer s H E) [] (start N vs) H s1 := inv_start S hr.hd e0 hl r x
  refine wpAny_mono (ht [] s1 (start N vs) H _ I hq) (fun fl s' hs => ?_) fun e s' hs => hs
  have fin : ∀ {σ' : St} {H' : Hp} {v : V} {u : Value}, Inv (cxOf CX P w K mg base N qual scope f cdv A outer s H E) [] σ' H' s' → RelV v u → Q v H' → CE outer P w H s Q u s' :=
    fun {σ' H' v u} J rv q => ⟨v, H', J.os, J.bare, J.base, J.hok, rv, q⟩
  cases fl with
  | ret u =>
    obtain ⟨v, σ', H', J, rv, q⟩ := hs
    exact fin J rv q
  | next =>
    obtain ⟨σ', H', J, q⟩ := hs
    exact fin (v := V.non) (u := Value.none) J rfl q
  | brk =>
    obtain ⟨_, _, _, q⟩ := hs
    exact False.elim q
  | cont =>
    obtain ⟨_, _, _, q⟩ := hs
    exact False.elim q
end L2

namespace L2
open PySem PySem.Spec PyProof.Rows
section
variable {X : Cx} {x : Str} {p pos : Pos} {e : Expr} {es : List Expr} {t : TA} {id T : String} {r : List V → Hp → VK → Prop}

def tCB (r : List V → Hp → VK → Prop) (t : TA) : TE := fun σ H Q => t σ H fun vs H1 => r vs H1 Q
theorem pe_callB (hc : CallR X (.builtin id) r) (hg : Gl X x) (hm : X.mg x = none) (hv : bootBuiltins x = some (.builtin id)) (ha : PA X (e :: es) t) (hn : x ≠ "__name__" := by decide) (hdb : (x == ("__debug__" : Str)) = false := by decide)
    (he : starEach (e :: es) X.env = (false, eval e X.env) :: starEach es X.env := by rfl) (hpl : (backTo pos (starEach es X.env)).any (·.1) = false := by rfl) : PE X (.Call (.Name x p) (e :: es) [] pos) (tCB r t) := by
  intro pins s σ H Q I h
  refine wpAny_Call_Name_kw (ld_blt I hg hm hv ?_ hn hdb)
  refine PyProof.Rows.callWith_builtin1 (thn (ha pos pins s σ H _ I h) fun us s1 hx9 => ?_) he hpl
  obtain ⟨vs, H1, I1, r1, q1⟩ := hx9
  exact hc pins s1 σ H1 vs us Q I1 r1 q1
theorem pe_callTy (hc : CallR X (.type T) r) (hg : Gl X x) (hm : X.mg x = none) (hv : bootBuiltins x = some (.type T)) (ha : PA X (e :: es) t) (hn : x ≠ "__name__" := by decide) (hdb : (x == ("__debug__" : Str)) = false := by decide)
    (he : starEach (e :: es) X.env = (false, eval e X.env) :: starEach es X.env := by rfl) (hpl : (backTo pos (starEach es X.env)).any (·.1) = false := by rfl) : PE X (.Call (.Name x p) (e :: es) [] pos) (tCB r t) := by
  intro pins s σ H Q I h
  refine wpAny_Call_Name_kw (ld_blt I hg hm hv ?_ hn hdb)
  refine PyProof.Rows.callWith_type1 (thn (ha pos pins s σ H _ I h) fun us s1 hx9 => ?_) he hpl
  obtain ⟨vs, H1, I1, r1, q1⟩ := hx9
  exact hc pins s1 σ H1 vs us Q I1 r1 q1
end
end L2

namespace HT
open PySem PyProof.Rows

section
open PySem.SeqAt
open PySem.AutoSeq1 (wpAny_loadPart')
open PySem.MeetsSeq PySem.MeetsSeq2 PySem.MeetsSeq3

end

section
variable {prog : Program} {w : World} {A : Around} {E : Value → Shared → Prop} {s : Shared}

theorem cat_tup {t b : Addr} {vs ws : List Value} {Q : Value → Shared → Prop} (ht : IsTup s.heap t vs.toArray) (hb : IsTup s.heap b ws.toArray) (hv : vs ≠ [])
    (h1 : ws = [] → Q (.ref t) s) (h2 : ws ≠ [] → Q (.ref s.heap.objs.size) { s with heap := s.heap.push { cls := .type "tuple", data := .seq (vs ++ ws).toArray } })
    (hsz : vs.length + ws.length ≤ sizeLine) : wpAny (model prog w) A (binaryOp .Add (.ref t) (.ref b)) Q E s := by
  obtain ⟨⟨cls, dd, data, sl⟩, ho, hc, n, hd⟩ := id ht
  obtain ⟨⟨cls2, dd2, data2, sl2⟩, ho2, hc2, n2, hd2⟩ := id hb
  simp only at hc hd hc2 hd2
  subst hc hd hc2 hd2
  have e : vs.toArray ++ ws.toArray = (vs ++ ws).toArray := by simp
  by_cases hw : ws = []
  · exact concat_meets ⟨_, ho, rfl⟩ ⟨_, ho2, rfl⟩ noFill_tuple_add seq_tuple_add PySem.F.slot_tuple_add PySem.F.entry_tuple_add (PySem.F.args_tuple_add_2 _ _)
      (tuple_addW1 t b vs.toArray ws.toArray n n2 dd dd2 sl sl2 (by simpa using hv) (by simp [hw])) ⟨ho, ho2, h1 hw⟩
  · refine concat_meets ⟨_, ho, rfl⟩ ⟨_, ho2, rfl⟩ noFill_tuple_add seq_tuple_add PySem.F.slot_tuple_add PySem.F.entry_tuple_add (PySem.F.args_tuple_add_2 _ _)
      (tuple_addW2 t b vs.toArray ws.toArray n n2 dd dd2 sl sl2 (by simpa using hv) (by simpa using hw) (by rw [List.size_toArray, List.size_toArray]; exact hsz)) ⟨ho, ho2, ?_⟩
    rw [e]
    exact h2 hw

def sIx (n d : Nat) : Option Int → Nat
  | none => d
  | some v => if v < 0 then (v + (n : Int)).toNat else min v.toNat n
theorem sIx_none (n d : Nat) : sIx n d none = d := rfl
theorem sIx_nat (n d k : Nat) : sIx n d (some (k : Int)) = min k n := by
  show (if (k : Int) < 0 then ((k : Int) + (n : Int)).toNat else min (k : Int).toNat n) = min k n
  rw [if_neg (by omega), Int.toNat_natCast]
theorem sIx_le (n d : Nat) (hd : d ≤ n) (o : Option Int) : sIx n d o ≤ n := by
  cases o with
  | none => exact hd
  | some v =>
    show (if v < 0 then (v + (n : Int)).toNat else min v.toNat n) ≤ n
    by_cases hv : v < 0
    · rw [if_pos hv]; omega
    · rw [if_neg hv]; exact Nat.min_le_right _ _
theorem clip_eq (v : Int) (n d : Nat) : (if v < 0 then max (v + (n : Int)) 0 else min v (n : Int)) = ((sIx n d (some v) : Nat) : Int) := by
  show (if v < 0 then max (v + (n : Int)) 0 else min v (n : Int)) = (((if v < 0 then (v + (n : Int)).toNat else min v.toNat n) : Nat) : Int)
  by_cases hv : v < 0
  · simp only [if_pos hv]; omega
  · simp only [if_neg hv]; omega
theorem adjust_gen (lo hi : Option Int) (n : Nat) : Builtin.Slice.sliceAdjust lo hi 1 (n : Int) = (((sIx n 0 lo : Nat) : Int), ((sIx n n hi : Nat) : Int)) := by
  have h1 : ¬ ((1 : Int) < 0) := by omega
  unfold Builtin.Slice.sliceAdjust
  simp only [h1, if_false]
  refine Prod.ext ?_ ?_
  · cases lo with
    | none => rfl
    | some v => exact clip_eq v n 0
  · cases hi with
    | none => rfl
    | some v => exact clip_eq v n n
theorem places_gen (i j : Nat) : Builtin.Slice.slicePlaces (i : Int) (j : Int) 1 = j - i := by
  unfold Builtin.Slice.slicePlaces
  have h1 : (1 : Int) > 0 := by omega
  simp only [h1, if_true, Int.ediv_one]
  split <;> omega
theorem slicePart_ {v : Value} {o : Option Int} {Q : Option Int → Shared → Prop} (p : IsPart v o) (h : Q o s) : wpAny (model prog w) A (Builtin.Slice.slicePartIndex v) Q E s := by
  cases p with
  | none => exact slicePart_none h
  | int i t => exact slicePart_int h
theorem sliceApplied_gen {sl : Addr} {vl vu : Value} {lo hi : Option Int} {n : Nat} {Q : Int × Int × Nat → Shared → Prop} (hs : s.heap.IsSliceOf sl vl vu .none) (pl : IsPart vl lo) (pu : IsPart vu hi)
    (h : Q (((sIx n 0 lo : Nat) : Int), 1, sIx n n hi - sIx n 0 lo) s) : wpAny (model prog w) A (Builtin.Slice.sliceApplied (.ref sl) (pure (n : Int))) Q E s := by
  obtain ⟨os, hos, hcs, hds⟩ := id hs
  unfold Builtin.Slice.sliceApplied Builtin.Slice.sliceFields
  refine wpAny_bind (wpAny_bind (wpAny_field hos hds (x := vl) rfl (wpAny_bind (wpAny_field hos hds (x := vu) rfl (wpAny_bind (wpAny_field hos hds (x := .none) rfl (wpAny_pure ?_)))))))
  refine wpAny_bind (slicePart_none ?_)
  show wpAny _ _ (if ((1 : Int) == 0) = true then _ else _) _ _ s
  rw [if_neg (by decide)]
  refine wpAny_bind (slicePart_ pl (wpAny_bind (slicePart_ pu (wpAny_bind (wpAny_pure ?_)))))
  show wpAny _ _ (match Builtin.Slice.sliceAdjust lo hi 1 (n : Int) with | (lo, hi) => pure (lo, (1 : Int), Builtin.Slice.slicePlaces lo hi 1)) _ _ s
  rw [adjust_gen lo hi n]
  show wpAny _ _ (pure (((sIx n 0 lo : Nat) : Int), (1 : Int), Builtin.Slice.slicePlaces ((sIx n 0 lo : Nat) : Int) ((sIx n n hi : Nat) : Int) 1)) _ _ s
  rw [places_gen]
  exact wpAny_pure h
theorem pick_gen (xs : Array Value) (i k : Nat) : ((List.range k).filterMap fun (m : Nat) => xs[((i : Int) + (m : Int) * 1).toNat]?).toArray = ((xs.toList.drop i).take k).toArray := by
  have e : (fun (m : Nat) => xs[((i : Int) + (m : Int) * 1).toNat]?) = fun m => xs[i + m]? := by
    funext m
    have : ((i : Int) + (m : Int) * 1).toNat = i + m := by omega
    rw [this]
  rw [e]
  have := pick_run xs i k
  rw [List.filterMap_map] at this
  have e2 : ((fun x => xs[x]?) ∘ fun x => i + x) = fun m => xs[i + m]? := rfl
  rw [e2] at this
  rw [this]

theorem getItem_tuple_cut {t sl : Addr} {items : Array Value} {vl vu : Value} {lo hi : Option Int} {Q : Value → Shared → Prop} (ht : IsTup s.heap t items) (hs : s.heap.IsSliceOf sl vl vu .none) (pl : IsPart vl lo) (pu : IsPart vu hi)
    (hw : ¬ (sIx items.size 0 lo = 0 ∧ sIx items.size items.size hi = items.size))
    (h : Q (.ref s.heap.objs.size) { s with heap := s.heap.push { cls := .type "tuple", data := .seq ((items.toList.drop (sIx items.size 0 lo)).take (sIx items.size items.size hi - sIx items.size 0 lo)).toArray } })
    (hsz : items.size ≤ sizeLine) : wpAny (model prog w) A (getItem (.ref t) (.ref sl)) Q E s := by
  have htake : sizeOk (.seq ((items.toList.drop (sIx items.size 0 lo)).take (sIx items.size items.size hi - sIx items.size 0 lo)).toArray) := by
    show ((items.toList.drop (sIx items.size 0 lo)).take (sIx items.size items.size hi - sIx items.size 0 lo)).toArray.size ≤ sizeLine
    rw [List.size_toArray, List.length_take, List.length_drop, Array.length_toList]
    omega
  have hj : sIx items.size items.size hi ≤ items.size := sIx_le _ _ (Nat.le_refl _) hi
  obtain ⟨os, hos, hcs, hds⟩ := id hs
  have hTs : s.TypeIs (.ref sl) "slice" := ⟨os, hos, hcs⟩
  unfold getItem
  try with_reducible refine wpAny_holding ?_
  first | refine wpAny_bind (wpAny_pure ?_) | skip
  refine wpAny_bind (wpAny_sequenceKey ht.typeIs (by decide) ?_)
  refine wpAny_bind (wpAny_callSpecial?_slot (name := Str.ofString "__getitem__") ht.typeIs PyProof.Rows.slot_tuple_getitem
    (wpAny_call_entry PyProof.Rows.slot_tuple_getitem ht.typeIs entry_tuple_getitem ?_ (args_tuple_getitem _ _)))
  show wpAny _ _ (Builtin.Tuple.tupleItemsOf (.ref t) >>= _) _ _ s
  refine wpAny_bind (tupleItemsOf_ ht ?_)
  refine wpAny_bind (wpAny_typeOf hTs ?_)
  rw [if_pos (by decide)]
  refine wpAny_bind (sliceApplied_gen hs pl pu ?_)
  have hno : ¬ ((((sIx items.size 0 lo : Nat) : Int) == 0 && (1 : Int) == 1 && (sIx items.size items.size hi - sIx items.size 0 lo) == items.size) = true) := by
    intro q
    rw [Bool.and_eq_true, Bool.and_eq_true] at q
    have q1 : ((sIx items.size 0 lo : Nat) : Int) = 0 := eq_of_beq q.1.1
    have q2 : sIx items.size items.size hi - sIx items.size 0 lo = items.size := eq_of_beq q.2
    exact hw ⟨by omega, by omega⟩
  show wpAny _ _ (if (((sIx items.size 0 lo : Nat) : Int) == 0 && (1 : Int) == 1 && (sIx items.size items.size hi - sIx items.size 0 lo) == items.size) = true then _ else _) _ _ s
  rw [if_neg hno, pick_gen]
  first
    | exact wpAny_bind (m := Builtin.Tuple.tupleExact _) (wpAny_newObj_type (wpAny_pure ⟨_, rfl, wpAny_pure h⟩) htake)
    | exact wpAny_bind (m := Builtin.Tuple.tupleExact _) (wpAny_newObj_type (wpAny_bind (wpAny_pure (wpAny_pure ⟨_, rfl, wpAny_pure h⟩))) htake)
    | exact wpAny_bind (wpAny_bind (m := Builtin.Tuple.tupleExact _) (wpAny_newObj_type (wpAny_pure (wpAny_pure ⟨_, rfl, wpAny_pure h⟩)) htake))
    | exact wpAny_bind (wpAny_bind (m := Builtin.Tuple.tupleExact _) (wpAny_newObj_type (wpAny_pure ⟨_, rfl, wpAny_pure h⟩) htake))
end
end HT

namespace L2
open PySem PySem.Spec PyProof.Rows

abbrev TO := St → Hp → (Option Int → Hp → Prop) → Prop
def PO (X : Cx) (e : Option Expr) (t : TO) : Prop :=
  ∀ (pins : List (Addr × Obj)) (s : Shared) (σ : St) (H : Hp) (Q : Option Int → Hp → Prop), Inv X pins σ H s → t σ H Q →
    wpAny (model X.prog X.w) X.A (evalPart e X.env) (fun u s' => ∃ o H', Inv X pins σ H' s' ∧ IsPart u o ∧ Q o H') X.xe s
def tNoPart : TO := fun _ H Q => Q none H
def tPart (t : TE) : TO := fun σ H Q => t σ H fun x H1 => ∃ i, x = .int i ∧ Q (some i) H1

theorem intsAre_of {ns : List Int} : ∀ {us : List Value}, Vals (ns.map V.int) us → IntsAre us ns := by
  induction ns with
  | nil => intro us r; rw [List.map_nil] at r; cases r; exact .nil
  | cons n ns ih =>
    intro us r
    rw [List.map_cons] at r
    cases r with
    | cons r1 r2 =>
      obtain ⟨t, e⟩ := r1
      subst e
      exact .cons n t (ih r2)

section
variable {X : Cx} {e : Expr} {te : TE} {lo hi : Option Expr} {tl th : TO} {pos p2 : Pos}

theorem po_none : PO X none tNoPart := by
  intro pins s σ H Q I h
  rw [evalPart_none]
  exact wpAny_pure ⟨none, H, I, .none, h⟩
theorem po_some (h : PE X e te) : PO X (some e) (tPart te) := by
  intro pins s σ H Q I hw
  rw [evalPart_some]
  refine thn (h pins s σ H _ I hw) fun u s1 hx9 => ?_
  obtain ⟨x, H1, I1, r1, q1⟩ := hx9
  obtain ⟨i, rfl, q⟩ := q1
  obtain ⟨t, rfl⟩ := r1
  exact ⟨some i, H1, I1, .int i t, q⟩

def SlR (X : Cx) (r : V → Option Int → Option Int → Hp → VK → Prop) : Prop :=
  ∀ (pins : List (Addr × Obj)) (s : Shared) (σ : St) (H : Hp) (x : V) (v vl vu : Value) (lo hi : Option Int) (sl : Addr) (Q : VK), Inv X pins σ H s → RelV x v → s.heap.IsSliceOf sl vl vu .none → IsPart vl lo → IsPart vu hi → r x lo hi H Q →
    ∃ T id, typeLookup (.type T) "__getitem__" = pure (some (.builtin id)) ∧ s.TypeIs v T ∧ wpAny (model X.prog X.w) X.A (getItem v (.ref sl)) (EP X pins σ Q) X.xe s
def tSl (r : V → Option Int → Option Int → Hp → VK → Prop) (te : TE) (tl th : TO) : TE := fun σ H Q => te σ H fun x H1 => tl σ H1 fun l H2 => th σ H2 fun u H3 => r x l u H3 Q
theorem pe_slice {r : V → Option Int → Option Int → Hp → VK → Prop} (hr : SlR X r) (he : PE X e te) (hl : PO X lo tl) (hu : PO X hi th) : PE X (.Subscript e (.Slice lo hi none p2) pos) (tSl r te tl th) := by
  intro pins s σ H Q I h
  refine Subscript_ (thn (he pins s σ H _ I h) fun v s1 hx9 => ?_)
  obtain ⟨x, H1, I1, r1, q1⟩ := hx9
  refine wpAny_Slice (thn (hl pins s1 σ H1 _ I1 q1) fun vl s2 ⟨l, H2, I2, pl, q2⟩ => thn (hu pins s2 σ H2 _ I2 q2) fun vu s3 hx9 => ?_)
  obtain ⟨u, H3, I3, pu, q3⟩ := hx9
  rw [evalPart_none]
  refine wpAny_pure ?_
  have I4 : Inv X pins σ H3 { s3 with heap := s3.heap.push { cls := .type "slice", data := .fields #[vl, vu, .none] } } := I3.kept (t' := s3.toks) fun b ob q => Heap.get?_push_of_some _ q
  obtain ⟨T, id, hT, ht, hg⟩ := hr pins { s3 with heap := s3.heap.push { cls := .type "slice", data := .fields #[vl, vu, .none] } } σ H3 x v vl vu l u s3.heap.objs.size Q I4 r1 (Heap.IsSliceOf.new ..) pl pu q3
  show wpAny (model X.prog X.w) X.A (subscriptTail e (.Slice lo hi none p2) v (.ref s3.heap.objs.size)) (EP X pins σ Q) X.xe { s3 with heap := s3.heap.push { cls := .type "slice", data := .fields #[vl, vu, .none] } }
  exact tail_any (ops := [.ref s3.heap.objs.size, v]) ht hT hg (by with_unfolding_all rfl)

def cutV (xs : List V) (lo hi : Option Int) : List V := (xs.drop (HT.sIx xs.length 0 lo)).take (HT.sIx xs.length xs.length hi - HT.sIx xs.length 0 lo)
theorem cutV_length (xs : List V) (lo hi : Option Int) : (cutV xs lo hi).length ≤ xs.length := by
  unfold cutV
  rw [List.length_take, List.length_drop]
  exact Nat.le_trans (Nat.min_le_right _ _) (Nat.sub_le _ _)
def rSlT (K : PySem.W.Frag) : V → Option Int → Option Int → Hp → VK → Prop := fun x lo hi H Q => ∃ a xs, x = .ref a ∧ SqT K H a xs ∧
  ¬ (HT.sIx xs.length 0 lo = 0 ∧ HT.sIx xs.length xs.length hi = xs.length) ∧ ∀ p, H p = none → Q (.ref p) (upd H p (.tup (cutV xs lo hi)))
theorem sl_tup : SlR X (rSlT X.K) := by
  intro pins s σ H x v vl vu lo hi sl Q I rx hs pl pu h
  obtain ⟨a, xs, rfl, hx, hw, q⟩ := h
  cases rx
  obtain ⟨its, r, ht, hz⟩ := I.tuple hx
  have hlen : its.toArray.size = xs.length := by rw [List.size_toArray]; exact r.length.symm
  refine ⟨"tuple", _, PyProof.Rows.slot_tuple_getitem.lookup, ht.typeIs, ?_⟩
  refine HT.getItem_tuple_cut ht hs pl pu (by rw [hlen]; exact hw) ?_ (by rw [hlen]; exact hz)
  rw [hlen]
  refine ⟨.ref s.heap.objs.size, _, I.laid (t' := s.toks) (o := .tup (cutV xs lo hi)) (fun b ob q => Heap.get?_push_of_some _ q) (Nat.le_refl _) ?_, rfl, q _ (I.hok.fresh (Nat.le_refl _))⟩
  exact ⟨Nat.le_trans (cutV_length xs lo hi) hz, _, 0, (r.drop (HT.sIx xs.length 0 lo)).take (HT.sIx xs.length xs.length hi - HT.sIx xs.length 0 lo), Heap.get?_push_size _ rfl⟩

def rCatT (K : PySem.W.Frag) : R2 := fun x y H Q => ∃ a b xs ys, x = .ref a ∧ y = .ref b ∧ SqT K H a xs ∧ SqT K H b ys ∧ xs ≠ [] ∧ xs.length + ys.length ≤ sizeLine ∧
  (ys = [] → Q (.ref a) H) ∧ (ys ≠ [] → ∀ p, H p = none → Q (.ref p) (upd H p (.tup (xs ++ ys))))
theorem Vals.nil_iff {xs : List V} {us : List Value} (r : Vals xs us) : us = [] ↔ xs = [] := by
  cases r with
  | nil => simp
  | cons _ _ => simp
theorem op_catT : OpR X (binaryOp .Add) (rCatT X.K) := by
  intro pins s σ H x y v u Q I rx ry h
  obtain ⟨a, b, xs, ys, rfl, rfl, ha, hb, hx, hz, q1, q2⟩ := h
  cases rx
  cases ry
  obtain ⟨its, r1, p1, _⟩ := I.tuple ha
  obtain ⟨its2, r2, p2, _⟩ := I.tuple hb
  refine HT.cat_tup p1 p2 (fun z => hx (r1.nil_iff.mp z)) (fun z => ⟨.ref a, H, I, rfl, q1 (r2.nil_iff.mp z)⟩) (fun z => ?_) (by rw [← r1.length, ← r2.length]; exact hz)
  refine ⟨.ref s.heap.objs.size, _, I.laid (t' := s.toks) (o := .tup (xs ++ ys)) (fun b ob q => Heap.get?_push_of_some _ q) (Nat.le_refl _) ?_, rfl, q2 (fun w => z (r2.nil_iff.mpr w)) _ (I.hok.fresh (Nat.le_refl _))⟩
  exact ⟨by rw [List.length_append]; exact hz, _, 0, r1.append r2, Heap.get?_push_size _ rfl⟩
end
end L2

namespace L2
open PySem PySem.Spec PyProof.Rows

def ixN (n : Nat) (i : Int) : Option Nat := if 0 ≤ i then (if i < n then some i.toNat else none) else if -(n : Int) ≤ i then some (i + n).toNat else none
def atI {α : Type} (xs : List α) (i : Int) : Option α := (ixN xs.length i).bind fun j => xs[j]?
theorem ixN_seq {n : Nat} {i : Int} {j : Nat} (h : ixN n i = some j) : seqIndex? i n = some j ∧ j < n ∧ -(n : Int) ≤ i ∧ i < n := by
  unfold ixN at h
  by_cases h0 : 0 ≤ i
  · rw [if_pos h0] at h
    by_cases h1 : i < n
    · rw [if_pos h1] at h
      have e : i.toNat = j := Option.some.inj h
      exact ⟨by rw [seqIndex_of h0 h1, e], by omega, by omega, h1⟩
    · rw [if_neg h1] at h; cases h
  · rw [if_neg h0] at h
    by_cases h1 : -(n : Int) ≤ i
    · rw [if_pos h1] at h
      have e : (i + n).toNat = j := Option.some.inj h
      exact ⟨by rw [seqIndex_neg (by omega) h1, e], by omega, h1, by omega⟩
    · rw [if_neg h1] at h; cases h
theorem atI_get {α : Type} {xs : List α} {i : Int} {v : α} (h : atI xs i = some v) : ∃ j, seqIndex? i xs.length = some j ∧ xs[j]? = some v ∧ j < xs.length ∧ -(xs.length : Int) ≤ i ∧ i < xs.length := by
  unfold atI at h
  cases e : ixN xs.length i with
  | none => rw [e] at h; cases h
  | some j =>
    rw [e] at h
    obtain ⟨h1, h2, h3, h4⟩ := ixN_seq e
    exact ⟨j, h1, h, h2, h3, h4⟩
theorem atI_nat {α : Type} {xs : List α} {j : Nat} {v : α} (h : xs[j]? = some v) : atI xs (j : Int) = some v := by
  have hj : j < xs.length := (List.getElem?_eq_some_iff.mp h).1
  have e : ixN xs.length (j : Int) = some j := by
    unfold ixN
    rw [if_pos (by omega), if_pos (by omega)]; simp
  unfold atI; rw [e]; exact h
def PlainIx (b : Expr) : Prop := ∀ o i, subscripted b false o i = operate [o, i] (getItem o i)
def IxR (X : Cx) (r : R2) : Prop :=
  ∀ (value slice : Expr) (pins : List (Addr × Obj)) (s : Shared) (σ : St) (H : Hp) (x y : V) (v u : Value) (Q : VK), Inv X pins σ H s → RelV x v → RelV y u → r x y H Q →
    subscripted slice false v u = operate [v, u] (getItem v u) → wpAny (model X.prog X.w) X.A (subscriptTail value slice v u) (EP X pins σ Q) X.xe s
def MtR (X : Cx) (id : String) (r : V → List V → Hp → VK → Prop) : Prop :=
  ∀ (pins : List (Addr × Obj)) (s : Shared) (σ : St) (H : Hp) (x : V) (xs : List V) (v : Value) (us : List Value) (Q : VK), Inv X pins σ H s → RelV x v → Vals xs us → r x xs H Q →
    wpAny (model X.prog X.w) X.A (call (.builtin id) (v :: us)) (EP X pins σ Q) X.xe s
section
variable {X : Cx} {a b : Expr} {ta tb : TE} {pos : Pos}
theorem pe_ix {r : R2} (hr : IxR X r) (ha : PE X a ta) (hb : PE X b tb) (hs : PlainIx b) : PE X (.Subscript a b pos) (tOp r ta tb) := by
  intro pins s σ H Q I h
  exact Subscript_ (binT ha hb I h fun v u s2 x y H2 I2 rx ry q => hr a b pins s2 σ H2 x y v u Q I2 rx ry q (hs _ _))

def rIxL (K : PySem.W.Frag) : R2 := fun x y H Q => ∃ p xs i v, x = .ref p ∧ y = .int i ∧ SqL K H p xs ∧ atI xs i = some v ∧ Q v H
def rIxT (K : PySem.W.Frag) : R2 := fun x y H Q => ∃ p xs i v, x = .ref p ∧ y = .int i ∧ SqT K H p xs ∧ atI xs i = some v ∧ Q v H
theorem ix_list : IxR X (rIxL X.K) := by
  intro value slice pins s σ H x y v u Q I rx ry h hs
  obtain ⟨p, xs, i, z, rfl, rfl, hq, he, q⟩ := h
  cases rx
  obtain ⟨t, rfl⟩ := ry
  obtain ⟨its, r, pl, hz⟩ := I.list hq
  obtain ⟨j, h1, h2, h3, h4, h5⟩ := atI_get he
  obtain ⟨w, ew, rw'⟩ := r.get h2
  have hl := r.length
  have hn := line63
  have fin : EP X pins σ Q w s := ⟨z, H, I, rw', q⟩
  by_cases h0 : 0 ≤ i
  · have hj : i.toNat = j := by
      rw [seqIndex_of h0 h5] at h1
      exact Option.some.inj h1
    exact item_listR pl.isList h0 (by omega) (by rw [hj]; simpa using ew) fin hs
  · have hj : (i + (its.toArray.size : Int)).toNat = j := by
      rw [seqIndex_neg (by omega) h4] at h1
      rw [List.size_toArray, ← hl]
      exact Option.some.inj h1
    exact subscriptTail_builtinR (x := w) pl.isList.typeIs slot_list_getitem.lookup
      (wpAny_getItem_list_neg (Q := fun r s' => r = w ∧ EP X pins σ Q r s') pl.isList (by omega) (by rw [List.size_toArray] <;> omega) (by omega) (by rw [hj]; simpa using ew) ⟨rfl, fin⟩) hs
theorem ix_tup : IxR X (rIxT X.K) := by
  intro value slice pins s σ H x y v u Q I rx ry h hs
  obtain ⟨p, xs, i, z, rfl, rfl, hq, he, q⟩ := h
  cases rx
  obtain ⟨t, rfl⟩ := ry
  obtain ⟨its, r, pl, hz⟩ := I.tuple hq
  obtain ⟨j, h1, h2, h3, h4, h5⟩ := atI_get he
  obtain ⟨w, ew, rw'⟩ := r.get h2
  have hl := r.length
  have hn := line63
  have fin : EP X pins σ Q w s := ⟨z, H, I, rw', q⟩
  exact subscriptTail_builtinR (x := w) pl.typeIs slot_tuple_getitem.lookup
    (getItem_tuple (j := j) (Q := fun r s' => r = w ∧ EP X pins σ Q r s') pl (by omega) (by omega) (by rw [List.size_toArray, ← hl]; exact h1) (by simpa using ew) ⟨rfl, fin⟩) hs
theorem mapSeq_set (its : List Value) (n j : Nat) (u : Value) : Obj.mapSeq (·.setIfInBounds j u) { cls := .type "list", data := .seq its.toArray n } = { cls := .type "list", data := .seq (its.set j u).toArray n } := by
  simp [Obj.mapSeq]
theorem Inv.lst {pins : List (Addr × Obj)} {σ : St} {H : Hp} {s : Shared} {p : Addr} {xs : List V} (I : Inv X pins σ H s) (h : H p = some (.lst xs)) :
    ∃ (its : List Value) (n : Nat), Vals xs its ∧ s.heap.get? p = some { cls := .type "list", data := .seq its.toArray n } ∧ xs.length ≤ sizeLine := by
  obtain ⟨z, its, n, r, e⟩ := I.hok p _ h
  exact ⟨its, n, r, e, z⟩
theorem Inv.lstUpd {pins : List (Addr × Obj)} {σ : St} {H : Hp} {s : Shared} {p : Addr} {xs ys : List V} {its its' : List Value} {n n' : Nat} {f : Obj → Obj} (I : Inv X pins σ H s) (h : H p = some (.lst xs))
    (ho : s.heap.get? p = some { cls := .type "list", data := .seq its.toArray n }) (hf : f { cls := .type "list", data := .seq its.toArray n } = { cls := .type "list", data := .seq its'.toArray n' }) (r : Vals ys its') (hz : ys.length ≤ sizeLine) (t : Nat) :
    Inv X pins σ (upd H p (.lst ys)) { s with heap := s.heap.update p f, toks := t } := by
  have e : (s.heap.update p f).get? p = some { cls := .type "list", data := .seq its'.toArray n' } := by
    rw [Heap.get?_update_self f ho (by rw [hf] <;> rfl), hf]
  refine I.write (x := p) (e := p) (by rw [h]; trivial) (.inl rfl) (fun b u hb q => (Heap.get?_update_other _ _ (Ne.symm hb)).trans q) ⟨_, e⟩ ?_
  exact ⟨hz, its', n', r, e⟩
def rSetL : V → V → V → Hp → (Hp → Prop) → Prop := fun o i v H Q => ∃ p xs k j, o = .ref p ∧ i = .int k ∧ H p = some (.lst xs) ∧ ixN xs.length k = some j ∧ Q (upd H p (.lst (xs.set j v)))
theorem set_list : PSet X rSetL := by
  intro pins s σ H o i v ov iv u Q I ro ri rv h
  obtain ⟨p, xs, k, j, rfl, rfl, hp, hj, q⟩ := h
  cases ro
  obtain ⟨t, rfl⟩ := ri
  obtain ⟨its, n, r, ho, hz⟩ := I.lst hp
  obtain ⟨h1, h2, h3, h4⟩ := ixN_seq hj
  have hl := r.length
  have hn := line63
  have I' : Inv X pins σ (upd H p (.lst (xs.set j v))) { s with heap := s.heap.update p (Obj.mapSeq (·.setIfInBounds j u)) } :=
    I.lstUpd hp ho (mapSeq_set its n j u) (r.set rv j) (by rw [List.length_set]; exact hz) s.toks
  by_cases h0 : 0 ≤ k
  · have hk : k.toNat = j := by
      rw [seqIndex_of h0 h4] at h1
      exact Option.some.inj h1
    exact PySem.W.ki_setAt ho h0 (by omega) (by rw [List.size_toArray, ← hl]; exact h4) (by rw [hk]; exact ⟨_, I', q⟩)
  · have hk : (k + (its.toArray.size : Int)).toNat = j := by
      rw [seqIndex_neg (by omega) h3] at h1
      rw [List.size_toArray, ← hl]
      exact Option.some.inj h1
    exact PySem.W.ki_setBack ho (by omega) (by rw [List.size_toArray, ← hl]; exact h3) (by omega) (by rw [hk]; exact ⟨_, I', q⟩)

theorem slice_bounds (lo hi : Option Int) (n : Nat) : (sliceBounds lo hi none n).1 = ((HT.sIx n 0 lo : Nat) : Int) ∧ (sliceBounds lo hi none n).2.1 = ((HT.sIx n n hi : Nat) : Int) ∧ (sliceBounds lo hi none n).2.2 = 1 := by
  refine ⟨?_, ?_, rfl⟩
  · cases lo with
    | none => simp [sliceBounds, HT.sIx]
    | some i =>
      simp only [sliceBounds, HT.sIx, Option.getD_none, show (1 : Int) > 0 by decide, if_true]
      by_cases h : i < 0
      · simp only [h, if_true] <;> omega
      · simp only [h, if_false] <;> omega
  · cases hi with
    | none => simp [sliceBounds, HT.sIx]
    | some i =>
      simp only [sliceBounds, HT.sIx, Option.getD_none, show (1 : Int) > 0 by decide, if_true]
      by_cases h : i < 0
      · simp only [h, if_true] <;> omega
      · simp only [h, if_false] <;> omega
theorem slicePick_cut (its : List Value) (lo hi : Option Int) : slicePick its.toArray lo hi none = ((its.drop (HT.sIx its.length 0 lo)).take (HT.sIx its.length its.length hi - HT.sIx its.length 0 lo)).toArray := by
  obtain ⟨h1, h2, h3⟩ := slice_bounds lo hi its.toArray.size
  unfold slicePick
  rw [h1, h2, h3]
  simp only [sliceRange_one, pick_run, List.size_toArray] <;> rfl
def rSlL (K : PySem.W.Frag) : V → Option Int → Option Int → Hp → VK → Prop := fun x lo hi H Q => ∃ a xs, x = .ref a ∧ SqL K H a xs ∧ ∀ p, H p = none → Q (.ref p) (upd H p (.lst (cutV xs lo hi)))
theorem sl_list : SlR X (rSlL X.K) := by
  intro pins s σ H x v vl vu lo hi sl Q I rx hs pl pu h
  obtain ⟨a, xs, rfl, hx, q⟩ := h
  cases rx
  obtain ⟨its, r, ht, hz⟩ := I.list hx
  have hlen := r.length
  refine ⟨"list", _, slot_list_getitem.lookup, ht.isList.typeIs, ?_⟩
  refine wpAny_getItem_list_slice ht.isList hs pl pu .none (by simp) ?_ (by rw [List.size_toArray] <;> omega)
  rw [slicePick_cut, ← hlen]
  refine ⟨.ref s.heap.objs.size, _, I.laid (t' := s.toks) (o := .lst (cutV xs lo hi)) (fun b ob q => Heap.get?_push_of_some _ q) (Nat.le_refl _) ?_, rfl, q _ (I.hok.fresh (Nat.le_refl _))⟩
  exact ⟨Nat.le_trans (cutV_length xs lo hi) hz, _, 0, (r.drop (HT.sIx xs.length 0 lo)).take (HT.sIx xs.length xs.length hi - HT.sIx xs.length 0 lo), Heap.get?_push_size _ rfl⟩

def flatV : V → Bool
  | .non => true
  | .bl _ => true
  | .int _ => true
  | .str _ => true
  | _ => false
def eqV : V → V → Bool
  | .non, .non => true
  | .bl a, .bl b => a == b
  | .bl a, .int b => (if a then 1 else 0) == b
  | .int a, .bl b => a == (if b then 1 else 0)
  | .int a, .int b => a == b
  | .str a, .str b => a == b
  | _, _ => false
theorem eqAt_V {A : Around} {s : Shared} {y x : V} {u v : Value} (ry : RelV y u) (rx : RelV x v) (fy : flatV y = true) (fx : flatV x = true) : SeqAt.EqAt A s u v (eqV y x) := by
  cases y with
  | non =>
    cases ry
    cases x with
    | non => cases rx; exact SeqAt.EqAt.same _
    | bl b => cases rx; exact SeqAt.EqAt.none_bool b
    | int b => obtain ⟨t, rfl⟩ := rx; exact SeqAt.EqAt.none_int b t
    | str b => obtain ⟨t, rfl⟩ := rx; exact SeqAt.EqAt.none_str b t
    | _ => exact absurd (show false = true from fx) Bool.false_ne_true
  | bl a =>
    cases ry
    cases x with
    | non => cases rx; exact SeqAt.EqAt.bool_none a
    | bl b => cases rx; exact SeqAt.EqAt.bool_bool a b
    | int b => obtain ⟨t, rfl⟩ := rx; exact SeqAt.EqAt.bool_int a b t
    | str b => obtain ⟨t, rfl⟩ := rx; exact SeqAt.EqAt.bool_str a b t
    | _ => exact absurd (show false = true from fx) Bool.false_ne_true
  | int a =>
    obtain ⟨t', rfl⟩ := ry
    cases x with
    | non => cases rx; exact SeqAt.EqAt.int_none a t'
    | bl b => cases rx; exact SeqAt.EqAt.int_bool a t' b
    | int b => obtain ⟨t, rfl⟩ := rx; exact SeqAt.EqAt.int_int a t' b t
    | str b => obtain ⟨t, rfl⟩ := rx; exact SeqAt.EqAt.int_str a t' b t
    | _ => exact absurd (show false = true from fx) Bool.false_ne_true
  | str a =>
    obtain ⟨t', rfl⟩ := ry
    cases x with
    | non => cases rx; exact SeqAt.EqAt.str_none a t'
    | bl b => cases rx; exact SeqAt.EqAt.str_bool a t' b
    | int b => obtain ⟨t, rfl⟩ := rx; exact SeqAt.EqAt.str_int a t' b t
    | str b => obtain ⟨t, rfl⟩ := rx; exact SeqAt.EqAt.str_str a t' b t
    | _ => exact absurd (show false = true from fx) Bool.false_ne_true
  | _ => exact absurd (show false = true from fy) Bool.false_ne_true
def eqU (x : V) (u : Value) : Bool := match u with
  | .none => eqV .non x
  | .bool b => eqV (.bl b) x
  | .int i _ => eqV (.int i) x
  | .str z _ => eqV (.str z) x
  | _ => false
theorem eqU_of {x y : V} {u : Value} (r : RelV y u) (f : flatV y = true) : eqU x u = eqV y x := by
  cases y with
  | non => cases r; rfl
  | bl b => cases r; rfl
  | int i => obtain ⟨t, rfl⟩ := r; rfl
  | str z => obtain ⟨t, rfl⟩ := r; rfl
  | _ => exact absurd (show false = true from f) Bool.false_ne_true
theorem any_eqU {x : V} : ∀ {xs : List V} {us : List Value}, Vals xs us → xs.all flatV = true → us.any (eqU x) = xs.any fun y => eqV y x
  := by
  intro xs us h
  induction h with
  | nil => intro _; rfl
  | cons r t ih =>
    intro f
    rw [List.all_cons, Bool.and_eq_true] at f
    rw [List.any_cons, List.any_cons, eqU_of r f.1, ih f.2]
theorem mem_eqAt {A : Around} {s : Shared} {x : V} {v : Value} (rx : RelV x v) (fx : flatV x = true) : ∀ {xs : List V} {us : List Value}, Vals xs us → xs.all flatV = true → ∀ u ∈ us, SeqAt.EqAt A s u v (eqU x u)
  | _, _, .nil, _ => fun u hu => by cases hu
  | y :: xs, u :: us, .cons r t, f => fun u' hu => by
    rw [List.all_cons, Bool.and_eq_true] at f
    rcases List.mem_cons.mp hu with rfl | hu
    · rw [eqU_of r f.1]; exact eqAt_V r rx f.1 fx
    · exact mem_eqAt rx fx t f.2 u' hu
def inV (x : V) (xs : List V) : Bool := xs.any fun y => eqV y x
def rIn (K : PySem.W.Frag) (neg : Bool) : R2 := fun x y H Q => ∃ p xs, y = .ref p ∧ (SqL K H p xs ∨ SqT K H p xs) ∧ flatV x = true ∧ xs.all flatV = true ∧ Q (.bl (if neg then !inV x xs else inV x xs)) H
theorem op_in_seq : OpR X (compareOp .In) (rIn X.K false) := by
  intro pins s σ H x y v u Q I rx ry h
  obtain ⟨p, xs, rfl, hq, fx, fs, q⟩ := h
  cases ry
  rcases hq with hq | hq
  · obtain ⟨its, r, pl, hz⟩ := I.list hq
    refine SeqAt.in_listAt (eqU x) pl.isList (fun w hw => mem_eqAt rx fx r fs w (by simpa using hw)) ⟨.bl _, H, I, rfl, ?_⟩
    rw [show its.toArray.any (eqU x) = its.any (eqU x) by simp, any_eqU r fs]
    exact q
  · obtain ⟨its, r, pl, hz⟩ := I.tuple hq
    refine SeqAt.in_tupleAt (eqU x) pl (fun w hw => mem_eqAt rx fx r fs w (by simpa using hw)) ⟨.bl _, H, I, rfl, ?_⟩
    rw [show its.toArray.any (eqU x) = its.any (eqU x) by simp, any_eqU r fs]
    exact q
theorem op_notIn_seq : OpR X (compareOp .NotIn) (rIn X.K true) := by
  intro pins s σ H x y v u Q I rx ry h
  obtain ⟨p, xs, rfl, hq, fx, fs, q⟩ := h
  cases ry
  rcases hq with hq | hq
  · obtain ⟨its, r, pl, hz⟩ := I.list hq
    refine SeqAt.notIn_listAt (eqU x) pl.isList (fun w hw => mem_eqAt rx fx r fs w (by simpa using hw)) ⟨.bl _, H, I, rfl, ?_⟩
    rw [show its.toArray.any (eqU x) = its.any (eqU x) by simp, any_eqU r fs]
    exact q
  · obtain ⟨its, r, pl, hz⟩ := I.tuple hq
    refine SeqAt.notIn_tupleAt (eqU x) pl (fun w hw => mem_eqAt rx fx r fs w (by simpa using hw)) ⟨.bl _, H, I, rfl, ?_⟩
    rw [show its.toArray.any (eqU x) = its.any (eqU x) by simp, any_eqU r fs]
    exact q
theorem call_len_seq : CallR X (.builtin "len") (fun xs H Q => ∃ p ys, xs = [.ref p] ∧ (SqL X.K H p ys ∨ SqT X.K H p ys) ∧ Q (.int ys.length) H) := by
  intro pins s σ H xs us Q I r h
  obtain ⟨p, ys, rfl, hq, q⟩ := h
  obtain ⟨u, rfl, rx⟩ := vals1 r
  cases rx
  have hn := line63
  rcases hq with hq | hq
  · obtain ⟨its, r', pl, hz⟩ := I.list hq
    have hlen := r'.length
    exact Calls.call_len_list pl.isList (by simp only [List.size_toArray] <;> omega) ⟨.int ys.length, H, I.tok _, ⟨s.toks + 1, by rw [List.size_toArray, hlen]⟩, q⟩
  · obtain ⟨its, r', pl, hz⟩ := I.tuple hq
    have hlen := r'.length
    exact len_tuple pl (by simp only [List.size_toArray] <;> omega) ⟨.int ys.length, H, I.tok _, ⟨s.toks + 1, by rw [List.size_toArray, hlen]⟩, q⟩
theorem call_list_of : CallR X (.type "list") (fun xs H Q => ∃ p ys, xs = [.ref p] ∧ (SqL X.K H p ys ∨ SqT X.K H p ys) ∧ ∀ l, H l = none → Q (.ref l) (upd H l (.lst ys))) := by
  intro pins s σ H xs us Q I r h
  obtain ⟨p, ys, rfl, hq, q⟩ := h
  obtain ⟨u, rfl, rx⟩ := vals1 r
  cases rx
  have fin : ∀ (its : List Value), Vals ys its → ys.length ≤ sizeLine → ∀ (h' : Heap) (c' : Nat), (∀ b o', s.heap.get? b = some o' → h'.get? b = some o') →
      h'.get? s.heap.objs.size = some { cls := .type "list", dict := none, data := .seq its.toArray c', slots := #[] } → EP X pins σ Q (.ref s.heap.objs.size) { s with heap := h' } := fun its r' hz h' c' kp e =>
    ⟨.ref s.heap.objs.size, _, I.laid (t' := s.toks) kp (Nat.le_refl _) (show ObjOk X.prog X.w _ h' _ (.lst ys) from ⟨hz, its, c', r', e⟩), rfl, q _ (I.hok.fresh (Nat.le_refl _))⟩
  rcases hq with hq | hq
  · obtain ⟨its, r', pl, hz⟩ := I.list hq
    have hlen := r'.length
    obtain ⟨o, ho, hc, n, hd⟩ := pl.isList
    exact call_list_seq p (.inl rfl) ho hc hd (fun h' c' kp e => fin its r' hz h' c' kp e) (by simp only [List.size_toArray] <;> omega)
  · obtain ⟨its, r', pl, hz⟩ := I.tuple hq
    have hlen := r'.length
    obtain ⟨o, ho, hc, n, hd⟩ := pl
    exact call_list_seq p (.inr rfl) ho hc hd (fun h' c' kp e => fin its r' hz h' c' kp e) (by simp only [List.size_toArray] <;> omega)
theorem call_tuple_of : CallR X (.type "tuple") (fun xs H Q => ∃ p ys, xs = [.ref p] ∧ ((SqL X.K H p ys ∧ ∀ l, H l = none → Q (.ref l) (upd H l (.tup ys))) ∨ (SqT X.K H p ys ∧ Q (.ref p) H))) := by
  intro pins s σ H xs us Q I r h
  obtain ⟨p, ys, rfl, h⟩ := h
  obtain ⟨u, rfl, rx⟩ := vals1 r
  cases rx
  rcases h with ⟨hq, q⟩ | ⟨hq, q⟩
  · obtain ⟨its, r', pl, hz⟩ := I.list hq
    have hlen := r'.length
    refine call_tuple_list pl.isList (fun h' kp => ?_) (by simp only [List.size_toArray] <;> omega)
    have I1 : Inv X pins σ H { s with heap := h' } := I.kept (t' := s.toks) kp
    have I2 : Inv X pins σ (upd H h'.objs.size (.tup ys)) { s with heap := h'.push { cls := .type "tuple", data := .seq its.toArray } } :=
      I1.laid (t' := s.toks) (fun b o e => Heap.get?_push_of_some _ e) (Nat.le_refl _) (show ObjOk X.prog X.w _ _ _ (.tup ys) from ⟨hz, its, 0, r', Heap.get?_push_size _ rfl⟩)
    exact ⟨.ref h'.objs.size, _, I2, rfl, q _ (I1.hok.fresh (Nat.le_refl _))⟩
  · obtain ⟨its, r', pl, hz⟩ := I.tuple hq
    exact call_tuple_same pl ⟨.ref p, H, I, rfl, q⟩

def tyV (K : PySem.W.Frag) (T : String) (x : V) (H : Hp) : Prop := match x with
  | .str _ => T = "str"
  | .int _ => T = "int"
  | .ref p => (T = "list" ∧ ∃ xs, SqL K H p xs) ∨ (T = "tuple" ∧ ∃ xs, SqT K H p xs) ∨
      (T = "dict" ∧ ((∃ kvs, H p = some (.dK kvs)) ∨ ∃ kvs, H p = some (.dT kvs))) ∨ (T = "set" ∧ ∃ S n, H p = some (.set S n))
  | _ => False
theorem tyV_is {pins : List (Addr × Obj)} {σ : St} {H : Hp} {s : Shared} {T : String} {x : V} {v : Value} (I : Inv X pins σ H s) (r : RelV x v) (ty : tyV X.K T x H) :
    s.TypeIs v T ∧ ∀ a, v = .ref a → ∃ ob, s.heap.get? a = some ob ∧ ob.dict = none := by
  cases x with
  | str z =>
    obtain ⟨t, rfl⟩ := r
    cases (show T = "str" from ty)
    exact ⟨typeIs_str s z t, fun _ e => nomatch e⟩
  | int i =>
    obtain ⟨t, rfl⟩ := r
    cases (show T = "int" from ty)
    exact ⟨typeIs_int s i t, fun _ e => nomatch e⟩
  | ref p =>
    cases r
    rcases ty with ⟨rfl, xs, hq⟩ | ⟨rfl, xs, hq⟩ | ⟨rfl, hk⟩ | ⟨rfl, S, n, hk⟩
    · obtain ⟨its, _, pl, _⟩ := I.list hq
      refine ⟨pl.isList.typeIs, fun a e => ?_⟩
      cases e
      obtain ⟨o, n, e, c, hd, _⟩ := pl
      exact ⟨o, e, hd⟩
    · obtain ⟨o, e, hc, hd⟩ : ∃ o, s.heap.get? p = some o ∧ o.cls = .type "tuple" ∧ o.dict = none := by
        rcases hq with hq | ⟨o, _, _, hk, hc, hd, _⟩
        · obtain ⟨_, its, n, _, e⟩ := hq.ok I.hok
          exact ⟨_, e, rfl, rfl⟩
        · exact ⟨o, I.kIn p o hk, hc, hd⟩
      refine ⟨⟨o, e, hc⟩, fun a e2 => ?_⟩
      cases e2
      exact ⟨o, e, hd⟩
    · have z : ∃ o, s.heap.get? p = some o ∧ o.ExactDict := by
        rcases hk with ⟨kvs, hk⟩ | ⟨kvs, hk⟩
        · obtain ⟨_, _, _, _, o, _, _, e, ex, _⟩ := I.hok p _ hk
          exact ⟨o, e, ex⟩
        · obtain ⟨_, _, _, _, o, _, _, e, ex, _⟩ := I.hok p _ hk
          exact ⟨o, e, ex⟩
      obtain ⟨o, e, ex⟩ := z
      refine ⟨⟨o, e, ex.1⟩, fun a e2 => ?_⟩
      cases e2
      exact ⟨o, e, ex.2.1⟩
    · obtain ⟨o, _, _, _, e, ex, _⟩ := I.hok p _ hk
      refine ⟨⟨o, e, ex.1⟩, fun a e2 => ?_⟩
      cases e2
      exact ⟨o, e, ex.2.1⟩
  | _ => exact False.elim ty
def tBM0 (K : PySem.W.Frag) (T : String) (r : V → List V → Hp → VK → Prop) (to : TE) : TE := fun σ H Q => to σ H fun x H1 => tyV K T x H1 ∧ r x [] H1 Q
def tBM (K : PySem.W.Frag) (T : String) (r : V → List V → Hp → VK → Prop) (to : TE) (t : TA) : TE := fun σ H Q => to σ H fun x H1 => tyV K T x H1 ∧ t σ H1 fun xs H2 => r x xs H2 Q
variable {o e : Expr} {es : List Expr} {to : TE} {t : TA} {name : Str} {apos cpos : Pos} {T id : String} {r : V → List V → Hp → VK → Prop}
theorem pe_bm0 (pa : PlainAttrs T) (slot : Slot T name id) (hty : typeOf (.builtin id) = pure (.type "method_descriptor")) (hm : MtR X id r) (ho : PE X o to)
    (hbase : attributeBase o name X.env (eval o X.env) = eval o X.env := by rfl) (hline : (apos.endLine == cpos.line) = true := by rfl) : PE X (.Call (.Attribute o name apos) [] [] cpos) (tBM0 X.K T r to) := by
  intro pins s σ H Q I h
  refine wpAny_Call_method0_late hbase hline (thn (ho pins s σ H _ I h) fun v s1 hx9 => ?_)
  obtain ⟨x, H1, I1, r1, ty, q1⟩ := hx9
  obtain ⟨h1, h2⟩ := tyV_is I1 r1 ty
  exact ⟨T, id, pa, slot, hty, h1, h2, Calls.callWith_builtin rfl (PySem.evalArgs_none (hm pins s1 σ H1 x [] v [] Q I1 r1 .nil q1))⟩
theorem pe_bm (pa : PlainAttrs T) (slot : Slot T name id) (hty : typeOf (.builtin id) = pure (.type "method_descriptor")) (hm : MtR X id r) (ho : PE X o to) (ha : PA X (e :: es) t)
    (hbase : attributeBase o name X.env (eval o X.env) = eval o X.env := by rfl)
    (hfew : ((backTo cpos (starEach (e :: es) X.env)).all (fun x => !x.1) && (backToKw cpos (keywordEach [] X.env)).all (fun x => x.1.isSome)
      && decide ((e :: es).length + ([] : List Keyword).length + (if ([] : List Keyword).isEmpty then 0 else 1) < 30)) = true := by rfl)
    (hline : (apos.endLine == cpos.line) = true := by rfl) (hs : starEach (e :: es) X.env = (false, eval e X.env) :: starEach es X.env := by rfl) (hplain : (backTo cpos (starEach es X.env)).any (·.1) = false := by rfl) :
    PE X (.Call (.Attribute o name apos) (e :: es) [] cpos) (tBM X.K T r to t) := by
  intro pins s σ H Q I h
  refine wpAny_Call_method_late hbase hfew hline rfl (thn (ho pins s σ H _ I h) fun v s1 hx9 => ?_)
  obtain ⟨x, H1, I1, r1, ty, q1⟩ := hx9
  obtain ⟨h1, h2⟩ := tyV_is I1 r1 ty
  refine ⟨T, id, pa, slot, hty, h1, h2, ?_⟩
  have hA := ha cpos pins s1 σ H1 _ I1 q1
  rw [hs] at hA ⊢
  refine Calls.callWith_builtin (by show (false || (backTo cpos (starEach es X.env)).any (·.1)) = false; rw [hplain] <;> rfl) (Calls.evalArgs_plain ?_)
  refine thn hA fun us s2 hx9 => ?_
  obtain ⟨vs, H2, I2, r2, q2⟩ := hx9
  exact hm pins s2 σ H2 x vs v us Q I2 r1 r2 q2
/- xs.append(e), list.index on a module's tuple .. are MtR facts of 06m -/
end
end L2

namespace L2
open PySem PySem.Spec PyProof.Rows

def MtM (X : Cx) (id : String) (r : V → List V → Hp → VK → Prop) : Prop :=
  ∀ (pins : List (Addr × Obj)) (s : Shared) (σ : St) (H : Hp) (x : V) (xs : List V) (v : Value) (us : List Value) (Q : VK), Inv X pins σ H s → RelV x v → Vals xs us → r x xs H Q →
    wpAny (model X.prog X.w) X.A (call (.builtin id) (v :: us)) (EP X pins σ Q) X.xe s

theorem Vals.one {x : V} {us : List Value} (r : Vals [x] us) : ∃ u, us = [u] ∧ RelV x u := vals1 r
theorem Vals.two {x y : V} {us : List Value} (r : Vals [x, y] us) : ∃ u v, us = [u, v] ∧ RelV x u ∧ RelV y v := vals2 r
theorem Vals.zero : ∀ {us : List Value}, Vals [] us → us = []
  | _, .nil => rfl
theorem Vals.dropLast {xs : List V} {us : List Value} (h : Vals xs us) : Vals xs.dropLast us.dropLast := by
  induction h with
  | nil => exact .nil
  | cons r t ih =>
    cases t with
    | nil => exact .nil
    | cons q t' => exact .cons r ih
theorem Vals.eraseIdx : ∀ {xs : List V} {us : List Value} (i : Nat), Vals xs us → Vals (xs.eraseIdx i) (us.eraseIdx i)
  | _, _, _, .nil => .nil
  | _, _, 0, .cons _ t => t
  | _, _, i + 1, .cons r t => .cons r (Vals.eraseIdx i t)
theorem Vals.reverse {xs : List V} {us : List Value} (h : Vals xs us) : Vals xs.reverse us.reverse := by
  induction h with
  | nil => exact .nil
  | cons r t ih => rw [List.reverse_cons, List.reverse_cons]; exact Vals.append ih (.cons r .nil)
theorem Vals.rep {xs : List V} {us : List Value} (h : Vals xs us) : ∀ k : Nat, Vals (List.replicate k xs).flatten (List.replicate k us).flatten
  | 0 => .nil
  | k + 1 => by
    rw [List.replicate_succ, List.replicate_succ, List.flatten_cons, List.flatten_cons]
    exact Vals.append h (Vals.rep h k)
theorem erase_last {α : Type} (l : List α) : l.eraseIdx (l.length - 1) = l.dropLast := by
  induction l with
  | nil => rfl
  | cons a r ih =>
    cases r with
    | nil => rfl
    | cons b r =>
      have e : (a :: b :: r).length - 1 = ((b :: r).length - 1) + 1 := by
        have h1 : (a :: b :: r).length = r.length + 2 := rfl
        have h2 : (b :: r).length = r.length + 1 := rfl
        omega
      rw [e, List.eraseIdx_cons_succ, ih]
      all_goals rfl
theorem foldl_rep (its : List Value) : ∀ (k : Nat) (acc : List Value),
    List.foldl (fun x1 x2 => x1 ++ x2) acc.toArray (List.replicate k its.toArray) = (acc ++ (List.replicate k its).flatten).toArray
  | 0, acc => by simp
  | k + 1, acc => by
    have e : acc.toArray ++ its.toArray = (acc ++ its).toArray := by simp
    have e2 : (acc ++ its) ++ (List.replicate k its).flatten = acc ++ (List.replicate (k + 1) its).flatten := by
      rw [List.replicate_succ, List.flatten_cons, List.append_assoc]
    rw [← e2, ← foldl_rep its k (acc ++ its), ← e, List.replicate_succ, List.foldl_cons]

section
variable {X : Cx} {pins : List (Addr × Obj)} {σ : St} {H : Hp} {s : Shared} {l b : Addr} {xs ys zs : List V}

theorem Inv.lset {its its' : List Value} {n : Nat} {f : Array Value → Array Value} {t' : Nat} (I : Inv X pins σ H s) (hH : H l = some (.lst xs))
    (e : s.heap.get? l = some { cls := .type "list", data := .seq its.toArray n }) (hf : f its.toArray = its'.toArray) (hv : Vals ys its') (hz : ys.length ≤ sizeLine) :
    Inv X pins σ (upd H l (.lst ys)) { s with heap := s.heap.update l (Obj.mapSeq f), toks := t' } := by
  have q := PySem.IsL.update e f
  rw [hf] at q
  refine I.write (x := l) (e := l) (by rw [hH]; exact trivial) (.inl rfl) (fun b' u hb hu => (Heap.get?_update_other s.heap (Obj.mapSeq f) (Ne.symm hb)).trans hu) ⟨_, q⟩ ?_
  exact ⟨hz, its', _, hv, q⟩
theorem Inv.lnew {its : List Value} {t' : Nat} (I : Inv X pins σ H s) (hv : Vals ys its) (hz : ys.length ≤ sizeLine) :
    Inv X pins σ (upd H s.heap.objs.size (.lst ys)) { s with heap := s.heap.push { cls := .type "list", data := .seq its.toArray }, toks := t' } :=
  I.laid (fun _ _ q => Heap.get?_push_of_some _ q) (Nat.le_refl _) ⟨hz, its, 0, hv, Heap.get?_push_size _ rfl⟩
theorem Inv.fresh (I : Inv X pins σ H s) : H s.heap.objs.size = none := I.hok.fresh (Nat.le_refl _)
theorem Inv.lstM (I : Inv X pins σ H s) (hH : H l = some (.lst xs)) : xs.length ≤ sizeLine ∧ ∃ (its : List Value) (n : Nat), Vals xs its ∧ xs.length = its.length ∧ s.heap.get? l = some { cls := .type "list", data := .seq its.toArray n } := by
  obtain ⟨z, its, n, r, e⟩ := I.hok l _ hH
  exact ⟨z, its, n, r, r.length, e⟩

theorem notLongL {n : Nat} (h : n ≤ sizeLine) : Builtin.List.listTooLong n = false := by
  unfold Builtin.List.listTooLong
  exact decide_eq_false (by omega)
end

section
variable {X : Cx}

def rAppend : V → List V → Hp → VK → Prop := fun x vs H Q => ∃ l xs y, x = .ref l ∧ vs = [y] ∧ H l = some (.lst xs) ∧ xs.length < sizeLine ∧ Q .non (upd H l (.lst (xs ++ [y])))
theorem mt_append : MtM X "list.append" rAppend := by
  intro pins s σ H x vs v us Q I rx rv h
  obtain ⟨l, xs, y, rfl, rfl, hH, hz, q⟩ := h
  cases rx
  obtain ⟨u, rfl, ru⟩ := rv.one
  obtain ⟨z, its, n, r, hl, e⟩ := I.lstM hH
  refine call_meets F.slot_list_append ⟨_, e, rfl⟩ F.entry_list_append (F.args_list_append_2 _ _) (PySem.list_append l its.toArray n u (by rw [List.size_toArray]; omega)) ⟨e, ?_⟩
  refine ⟨.non, _, I.lset (its' := its ++ [u]) hH e (by simp) (r.append (.cons ru .nil)) ?_, rfl, q⟩
  rw [List.length_append, List.length_singleton]
  omega

def rExtend : V → List V → Hp → VK → Prop := fun x vs H Q => ∃ l b xs zs, x = .ref l ∧ vs = [.ref b] ∧ H l = some (.lst xs) ∧ H b = some (.lst zs) ∧ xs.length + zs.length ≤ sizeLine ∧ Q .non (upd H l (.lst (xs ++ zs)))
theorem mt_extend : MtM X "list.extend" rExtend := by
  intro pins s σ H x vs v us Q I rx rv h
  obtain ⟨l, b, xs, zs, rfl, rfl, hH, hB, hz, q⟩ := h
  cases rx
  obtain ⟨u, rfl, ru⟩ := rv.one
  cases ru
  obtain ⟨z, its, n, r, hl, e⟩ := I.lstM hH
  obtain ⟨z2, its2, n2, r2, hl2, e2⟩ := I.lstM hB
  have hsz : its.toArray.size + its2.toArray.size ≤ sizeLine := by rw [List.size_toArray, List.size_toArray]; omega
  have hlong : ¬ (!its.toArray.isEmpty && Builtin.List.listTooLong (its.toArray.size + its2.toArray.size)) = true := by
    rw [notLongL hsz, Bool.and_false]
    exact Bool.false_ne_true
  refine call_meets F.slot_list_extend ⟨_, e, rfl⟩ F.entry_list_extend (F.args_list_extend_2 _ _)
    (AutoSeq1.list_extend_list_list_0 l its.toArray n b its2.toArray n2 hlong (by rw [List.size_toArray]; omega) (by omega)) ⟨e, e2, ?_⟩
  refine ⟨.non, _, I.lset (its' := its ++ its2) hH e (by simp) (r.append r2) ?_, rfl, q⟩
  rw [List.length_append]
  omega

def rPop : V → List V → Hp → VK → Prop := fun x vs H Q => ∃ l xs y, x = .ref l ∧ vs = [] ∧ H l = some (.lst xs) ∧ xs[xs.length - 1]? = some y ∧ Q y (upd H l (.lst xs.dropLast))
theorem mt_pop : MtM X "list.pop" rPop := by
  intro pins s σ H x vs v us Q I rx rv h
  obtain ⟨l, xs, y, rfl, rfl, hH, hy, q⟩ := h
  cases rx
  have hus := rv.zero
  subst hus
  obtain ⟨z, its, n, r, hl, e⟩ := I.lstM hH
  obtain ⟨u, hu, ru⟩ := r.get hy
  have hy' : its.toArray[its.toArray.size - 1]? = some u := by
    show its.toArray[its.length - 1]? = some u
    rw [← Array.getElem?_toList, ← hl]
    exact hu
  refine call_meets F.slot_list_pop ⟨_, e, rfl⟩ F.entry_list_pop (F.args_list_pop_1 _) (MeetsSeq.list_pop_last l its.toArray n u hy' (by rw [List.size_toArray]; omega)) ⟨e, ?_⟩
  refine ⟨y, _, I.lset (its' := its.dropLast) hH e ?_ r.dropLast ?_, ru, q⟩
  · show its.toArray.eraseIdxIfInBounds (its.toArray.size - 1) = its.dropLast.toArray
    rw [List.size_toArray, List.eraseIdxIfInBounds_toArray, erase_last]
  · rw [List.length_dropLast]
    omega

def rCat : R2 := fun x y H Q => ∃ l b xs zs, x = .ref l ∧ y = .ref b ∧ H l = some (.lst xs) ∧ H b = some (.lst zs) ∧ xs.length + zs.length ≤ sizeLine ∧ ∀ p, H p = none → Q (.ref p) (upd H p (.lst (xs ++ zs)))
theorem op_cat : OpR X (binaryOp .Add) rCat := by
  intro pins s σ H x y v u Q I rx ry h
  obtain ⟨l, b, xs, zs, rfl, rfl, hH, hB, hz, q⟩ := h
  cases rx
  cases ry
  obtain ⟨z, its, n, r, hl, e⟩ := I.lstM hH
  obtain ⟨z2, its2, n2, r2, hl2, e2⟩ := I.lstM hB
  refine PySem.P.add_list e e2 ?_ (by rw [List.size_toArray, List.size_toArray]; omega)
  have ea : its.toArray ++ its2.toArray = (its ++ its2).toArray := by simp
  rw [ea]
  exact ⟨.ref _, _, I.lnew (t' := s.toks) (r.append r2) (by rw [List.length_append]; omega), rfl, q _ I.fresh⟩
def rRep : R2 := fun x y H Q => ∃ l k xs, x = .ref l ∧ y = .int k ∧ H l = some (.lst xs) ∧ -(2 ^ 63) ≤ k ∧ k < 2 ^ 63 ∧ xs.length * k.toNat ≤ sizeLine ∧
  ∀ p, H p = none → Q (.ref p) (upd H p (.lst (List.replicate k.toNat xs).flatten))
theorem len_rep {α : Type} (xs : List α) (k : Nat) : (List.replicate k xs).flatten.length = k * xs.length := by
  induction k with
  | zero => simp
  | succ k ih => rw [List.replicate_succ, List.flatten_cons, List.length_append, ih, Nat.succ_mul, Nat.add_comm]
theorem op_rep : OpR X (binaryOp .Mult) rRep := by
  intro pins s σ H x y v u Q I rx ry h
  obtain ⟨l, k, xs, rfl, rfl, hH, h1, h2, hz, q⟩ := h
  cases rx
  obtain ⟨t, rfl⟩ := ry
  obtain ⟨z, its, n, r, hl, e⟩ := I.lstM hH
  have hlen : its.toArray.size * k.toNat ≤ sizeLine := by rw [List.size_toArray, ← hl]; exact hz
  have hcap : ¬ its.toArray.size * k.toNat > (2 ^ 63 - 1) / 8 := by
    have : (sizeLine : Nat) ≤ (2 ^ 63 - 1) / 8 := by decide
    omega
  have hfit : ¬ (!Builtin.List.listFitsIndex k) = true := by
    rw [fitsIndex_both h1 h2]
    exact Bool.false_ne_true
  have hlong : ¬ Builtin.List.listTooLong (its.toArray.size * k.toNat) = true := by
    rw [notLongL hlen]
    exact Bool.false_ne_true
  have hnew : List.foldl (fun x1 x2 => x1 ++ x2) #[] (List.replicate (if its.toArray.isEmpty = true then 0 else k.toNat) its.toArray) = (List.replicate k.toNat its).flatten.toArray := by
    have f0 : ∀ m : Nat, List.foldl (fun x1 x2 => x1 ++ x2) #[] (List.replicate m its.toArray) = (List.replicate m its).flatten.toArray := fun m => by
      have := foldl_rep its m []
      rw [List.nil_append] at this
      exact this
    rw [f0]
    cases its with
    | nil => simp
    | cons a r' => rw [if_neg (by simp)]
  refine wpAny_binaryOp_repeat_ref (T := "list") (U := "int") (by decide) ⟨_, e, rfl⟩ (fun s' => typeIs_int s' k t) noFill_list_mul F.fills_int_mul F.slot_int_rmul repeat_list F.slot_int_index.lookup
    (call_meets F.slot_int_rmul (typeIs_int s k t) F.entry_int_rmul (F.args_int_rmul_2 _ _) (int___rmul___int_list k t l its.toArray n)
      ⟨e, rfl, ⟨_, e, rfl⟩, call_meets F.slot_list_mul ⟨_, e, rfl⟩ F.entry_list_mul (F.args_list_mul_2 _ _) (AutoListH.list___mul___list_int_3 l its.toArray n k t hfit hcap hlong) ⟨e, ?_⟩⟩)
  rw [hnew]
  exact ⟨.ref _, _, I.lnew (t' := s.toks) (r.rep k.toNat) (by rw [len_rep, Nat.mul_comm]; exact hz), rfl, q _ I.fresh⟩

end

section
variable {prog : Program} {w : World} {A : Around} {E : Value → Shared → Prop} {s : Shared}
end

section
variable {X : Cx}
end
end L2

namespace Att
open PySem PySem.W PySem.Calls PyProof.Rows

theorem ints_of_wellAll {P : Params} {h : Heap} : ∀ (ns : List Int) (vs : List Value), WellAll P h vs (ns.map WData.int) → IntsAre vs ns := by
  intro ns
  induction ns with
  | nil =>
    intro vs w
    rw [List.map_nil] at w
    cases w
    exact .nil
  | cons n ns ih =>
    intro vs w
    rw [List.map_cons] at w
    cases w with
    | cons a b =>
      cases a
      exact .cons _ _ (ih _ b)

theorem script_of {l : OpenLaw} {n : Nat} (hn : l.most = some n) {P : Params} {h : Heap} {args : List WData} {vals : List Value}
    (hpre : l.row.toRowW.claim.pre args = true) (hwl : WellAll P h vals args) :
    ∃ a vs ns, vals = [Value.ref a] ∧ args = [WData.list (ns.map WData.int)] ∧ h.get? a = some { cls := .type "list", data := .seq vs.toArray } ∧ IntsAre vs ns ∧ ns.length ≤ n := by
  have hsh : WShape.hasAll [] args [.list .int] = true := (pre_splitW hpre).1
  have hc : l.pre.holds [] { args := args } = true := (pre_splitW hpre).2
  obtain ⟨d, r, rfl, h1, h2⟩ := hasAllW_cons hsh
  obtain rfl := hasAllW_nil h2
  obtain ⟨xs, rfl, h3⟩ := hasW_list h1
  obtain ⟨ns, rfl⟩ := items_int h3
  have hlen : ns.length ≤ n := by
    unfold OpenLaw.pre at hc
    have h4 : (WTm.not (.lt (.lit (.int (n : Int))) (.len (.arg 0)))).holds [] { args := [.list (ns.map .int)] } = true := by
      have h4 := (holds_andW hc).1
      rw [hn] at h4
      exact h4
    have h5 := condW_of h4 (w_not (w_lt w_lit (w_len_list (w_arg rfl))))
    rw [List.length_map] at h5
    refine Nat.le_of_not_lt fun q => ?_
    have q' : (n : Int) < ((ns.length : Nat) : Int) := by omega
    first
      | (rw [decide_eq_true q'] at h5; exact absurd h5 (by decide))
      | (simp at h5; omega)
  cases hwl with
  | cons w1 w2 =>
    cases w2
    cases w1 with
    | list ho hall => exact ⟨_, _, ns, rfl, rfl, ho, ints_of_wellAll ns _ hall, hlen⟩

theorem post_true (l : OpenLaw) (args : List WData) : l.row.toRowW.claim.post args (.bool true) args = true :=
  postW_of (r := l.row.toRowW) (X := (true == true))
    (show WShape.has [] (.bool true) .bool = true by first | rfl | decide | simp [WShape.has, WShape.arms, WShape.armsAll])
    (show (WTm.eq .res (.lit (.bool true))).value [] { args := args, res := some (.bool true), after := args } = some (.bool (true == true)) from w_eq_bool (w_res rfl) w_lit) rfl

theorem attach_call {l : OpenLaw} {n : Nat} {q : Program} {loose : List Str} {XP : (Str → Option Value) → Heap → Prop} {YP : World → Heap → Prop} {d : DefRec}
    (hn : l.most = some n) (hdf : d.params.defaults = [])
    (call : ∀ (w : World) (s₀ s₁ : Shared) (mg mb : Str → Option Value) (fa : Addr) (o : Obj) (pm cd doc : Value) (a : Addr) (vs : List Value) (ns : List Int),
      Ground q loose [] XP w s₀ mg mb s₁.heap → YP w s₁.heap →
      s₁.heap.get? fa = some o → o.data = .func (docDef d.name d.params d.body d.scope pm cd doc) → s₁.heap.CodeRec cd d.name → mg d.name = some (.ref fa) →
      s₁.heap.get? a = some { cls := .type "list", data := .seq vs.toArray } → IntsAre vs ns → ns.length ≤ n → s₁.gens = #[] →
      codeAny (model l.prog w) callerA (.call (.ref fa) ⟨[.ref a], []⟩) (fun r s' => r = .ok (.ret (.bool true)) ∧ OldK s₁.heap s'.heap ∧ s'.os = s₁.os ∧ AllBare s'.gens) s₁) :
    WalkO q loose XP YP l.row.toRowW d [] (fun f vs => PySem.call f vs) := by
  intro w s₀ s₁ mg mb G Y fa o pm cd doc dV kV ho hd hcd hD hmg hg args vals as hpre hlay hrd hwl hlo
  obtain rfl : dV = .none := Dflts.none hD hdf
  obtain rfl : kV = .none := Dflts.noKw hD
  obtain ⟨a, vs, ns, rfl, rfl, hobj, hints, hlen⟩ := script_of hn hpre hwl
  refine enter_call (codeAny_mono (call w s₀ s₁ mg mb fa o pm cd doc a vs ns G Y ho (fd_plain hd) hcd hmg hobj hints hlen hg) fun r s' hq => ?_)
  obtain ⟨rfl, h2, h3, h4⟩ := hq
  exact ⟨.inl ⟨.bool true, .bool true, [], rfl, fun _ => rfl, .bool true, post_true l _, fun _ => ⟨List.Pairwise.nil, fun _ hm => (nomatch hm)⟩⟩, h2, h3, h4⟩

section
variable {prog : Program} {w : World} {A : Around} {E : Value → Shared → Prop} {s : Shared} {K : Frag}

end
end Att

namespace L2
open PySem PySem.Spec PyProof.Rows

theorem vals_ints : ∀ {vs : List Value} {ns : List Int}, IntsAre vs ns → Vals (ns.map V.int) vs
  := by
  intro vs ns h
  induction h with
  | nil => exact .nil
  | cons n t h ih => exact .cons ⟨t, rfl⟩ ih

def Only (H : Hp) : Prop := ∀ b, H b = none ∨ ∃ o xs, H b = some (.frz o (.lst xs))

theorem law_call {P : Program} {w : World} {K : PySem.W.Frag} {mg mb : Str → Option Value} {CX : CXT} {k : Nat} {fa a : Addr} {fd : FuncData} {x : Str} {sp : Sp} {s₁ : Shared} {vs : List Value} {ns : List Int}
    (KX : K.In s₁.heap) (hns : s₁.heap.Ns mainGlobals mg) (hb : s₁.heap.Ns builtinsNs mb) (hbb : ∀ x : Str, x ≠ "__name__" → mb x = bootBuiltins x) (hlim : s₁.heap.NoLimit) (hmod : ∃ mm, s₁.heap.Ns sysModules mm) (hg : s₁.gens = #[])
    (ha : s₁.heap.get? a = some { cls := .type "list", data := .seq vs.toArray }) (hi : IntsAre vs ns) (hl : ns.length ≤ sizeLine) (hr : Room k callerA)
    (F : ∀ base : Heap, K.In base → base.Ns mainGlobals mg → FnOk P w K mg base CX k fa fd [x] sp) (hbind : ∀ (s : Shared) (u : Value), BindsTo s fd ⟨[u], []⟩ [(x, u)])
    (hsp : ∀ H : Hp, Only H → SqL K H a (ns.map V.int) → sp [.ref a] H (fun v _ => v = .bl true) fun _ _ _ => False)
    (hCX : ∀ H e s', CX [] H s₁ (fun _ _ _ => False) e s' → False) :
    codeAny (model P w) callerA (.call (.ref fa) ⟨[.ref a], []⟩) (fun r s' => r = .ok (.ret (.bool true)) ∧ OldK s₁.heap s'.heap ∧ s'.os = s₁.os ∧ AllBare s'.gens) s₁ := by
  have rv := vals_ints hi
  have lenV := hi.length
  -- from an abstract heap in which nothing but the script may be tracked
  have core : ∀ H : Hp, Only H → SqL K H a (ns.map V.int) → HOk P w H s₁.heap → (∀ b, H b ≠ none → b = a) → (H a ≠ none → K.lookup a = none) →
      codeAny (model P w) callerA (.call (.ref fa) ⟨[.ref a], []⟩) (fun r s' => r = .ok (.ret (.bool true)) ∧ OldK s₁.heap s'.heap ∧ s'.os = s₁.os ∧ AllBare s'.gens) s₁ := by
    intro H hO hS hok hA hK
    have base_of : ∀ {b : Addr} {o : Obj}, s₁.heap.get? b = some o → H b = none → (hidT s₁.heap H).get? b = some o := fun e n => hidT_get e n
    have noA : ∀ {b : Addr} {o : Obj} {es : Array DictEntry} {ep : Nat}, s₁.heap.get? b = some o → o.data = .dict es ep → H b = none := fun {b o es ep} e d => by
      cases q : H b with
      | none => rfl
      | some u =>
        have e' : b = a := hA b (by rw [q]; simp)
        subst e'
        rw [ha] at e; cases e
        have d' : Data.seq vs.toArray _ = Data.dict es ep := d
        cases d'
    have nsK : ∀ {b : Addr} {m : Str → Option Value}, s₁.heap.Ns b m → (hidT s₁.heap H).Ns b m := fun {b m} ⟨o, es, ep, e, d, r⟩ => ⟨o, es, ep, base_of e (noA e d), d, r⟩
    have hKb : K.In (hidT s₁.heap H) := fun b o e => base_of (KX b o e) (by
      cases q : H b with
      | none => rfl
      | some u =>
        have e' : b = a := hA b (by rw [q]; simp)
        subst e'
        rw [hK (by rw [q]; simp)] at e; cases e)
    have hM : Mod K mg (hidT s₁.heap H) := ⟨hKb, nsK hns, ⟨mb, nsK hb, hbb⟩, let ⟨mc, h1, h2⟩ := hlim; ⟨mc, nsK h1, h2⟩, let ⟨mm, h1⟩ := hmod; ⟨mm, nsK h1⟩⟩
    have e0 : Env0 P w K mg (hidT s₁.heap H) callerA [] s₁ H := ⟨rfl, hM, fun b o e => of_hidT e, Nat.le_of_eq (hidT_size _ _), trivial, fun b hb => absurd (show b ∈ ([] : List Addr) from hb) (by simp), hok, .of_eq hg⟩
    refine codeAny_mono ((F _ hKb (nsK hns)).run callerA [] s₁ H ⟨[.ref a], []⟩ [.ref a] [.ref a] _ _ hr e0 (hbind s₁ (.ref a)) (.cons rfl .nil) (hsp H hO hS)) fun r s' h => ?_
    cases r with
    | error e => exact (hCX H e s' h).elim
    | ok fl =>
      cases fl with
      | next => exact False.elim h
      | brk => exact False.elim h
      | cont => exact False.elim h
      | ret u =>
        obtain ⟨v, H', os, bare, un, hok', r', q⟩ := h
        have q' : v = .bl true := q
        subst q'
        obtain rfl : u = Value.bool true := r'
        refine ⟨rfl, OldK.of_keep fun b o e => ?_, os, bare⟩
        cases q : H b with
        | none => exact un.keep b o e q (by intro z; exact absurd (show b ∈ ([] : List Addr) from z) (by simp)) (by simp)
        | some u =>
          rcases hO b with z | ⟨ob, xs, z⟩
          · rw [q] at z; cases z
          · have z2 := un.frzs b ob _ z
            obtain ⟨e1, _⟩ := hok b _ z
            obtain ⟨e2, _⟩ := hok' b _ z2
            rw [e] at e1; cases e1
            exact e2
  cases hk : K.lookup a with
  | some o =>
    -- the script is one of the module's own objects
    have e := KX a o hk
    rw [ha] at e
    cases e
    refine core (fun _ => none) (fun _ => .inl rfl) (.inr ⟨_, vs.toArray, _, hk, rfl, rfl, rfl, by rw [List.size_toArray, lenV]; exact hl, by simpa using rv⟩) (fun b u z => by have z' : (none : Option HO) = some u := z; cases z') (fun b z => absurd rfl z) fun z => absurd rfl z
  | none =>
    refine core (fun b => if b = a then some (.frz { cls := .type "list", data := .seq vs.toArray } (.lst (ns.map V.int))) else none) (fun b => ?_) (.inl (.inr ⟨{ cls := .type "list", data := .seq vs.toArray }, if_pos rfl⟩)) (fun b u z => ?_) (fun b z => ?_) fun _ => hk
    · by_cases hb : b = a
      · exact .inr ⟨_, _, if_pos hb⟩
      · exact .inl (if_neg hb)
    · by_cases hb : b = a
      · have z' := (if_pos hb).symm.trans z
        cases z'
        subst hb
        exact ⟨ha, by rw [List.length_map]; exact hl, vs, _, rv, ha⟩
      · have z' := (if_neg hb).symm.trans z
        cases z'
    · by_cases hb : b = a
      · exact hb
      · exact absurd (if_neg hb) z
end L2

namespace L2
open PySem PySem.Spec PyProof.Rows

theorem walk_of {l : PySem.W.OpenLaw} {n k : Nat} {q : Program} {loose : List Str} {XP : (Str → Option Value) → Heap → Prop} {YP : World → Heap → Prop} {d : DefRec} {K : Params → PySem.W.Frag} {CX : World → CXT} {sp : World → Sp} {x : Str}
    (hn : l.most = some n) (hn2 : n ≤ sizeLine) (hdf : d.params.defaults = []) (hr : Room k callerA) (hq : importsNone q = true)
    (hY : ∀ (w : World) (h : Heap), YP w h → (K w.params).In h)
    (F : ∀ (w : World) (mg : Str → Option Value) (fa : Addr) (h : Heap), (K w.params).In h → h.Ns mainGlobals mg → mg d.name = some (.ref fa) →
      ∃ fd : FuncData, (∀ (s : Shared) (u : Value), BindsTo s fd ⟨[u], []⟩ [(x, u)]) ∧
        ∀ base : Heap, (K w.params).In base → base.Ns mainGlobals mg → FnOk l.prog w (K w.params) mg base (CX w) k fa fd [x] (sp w))
    (hsp : ∀ (w : World) (H : Hp) (a : Addr) (ns : List Int), ns.length ≤ n → Only H → SqL (K w.params) H a (ns.map V.int) → sp w [.ref a] H (fun v _ => v = .bl true) fun _ _ _ => False)
    (hCX : ∀ (w : World) (H : Hp) (s : Shared) (e : Value) (s' : Shared), CX w [] H s (fun _ _ _ => False) e s' → False) :
    PySem.W.WalkO q loose XP YP l.row.toRowW d [] (fun f vs => PySem.call f vs) := by
  refine Att.attach_call hn hdf fun w s₀ s₁ mg mb fa o pm cd doc a vs ns G Y ho hd hcd hmg hobj hints hlen hg => ?_
  have KX := hY w _ Y
  obtain ⟨fd, hb, hF⟩ := F w mg fa _ KX G.T.g hmg
  exact law_call KX G.T.g G.T.b G.T.builtins G.T.nolimit (let ⟨mm, h1, _⟩ := (G.T.seer hq).mods; ⟨mm, h1⟩) hg hobj hints (Nat.le_trans hlen hn2) hr hF hb (fun H hO hS => hsp w H a ns hlen hO hS) fun H e s' => hCX w H s₁ e s'
end L2

namespace L2
open PySem PySem.Spec PyProof.Rows

def defArgs (s : Stmt) : Arguments := match s with
  | .FunctionDef _ a _ _ _ _ _ _ _ _ => a
  | _ => { posonlyargs := [], args := [], vararg := none, kwonlyargs := [], kw_defaults := [], kwarg := none, defaults := [] }
def defBody (s : Stmt) : List Stmt := match s with
  | .FunctionDef _ _ b _ _ _ _ _ _ _ => b
  | _ => []
def defScope (s : Stmt) : Scope := match s with
  | .FunctionDef _ _ _ _ _ _ sc _ _ _ => sc
  | _ => { kind := .function, names := [], isGenerator := false, isCoroutine := false }

abbrev CX0 : CXT := fun _ _ _ _ _ _ => False
abbrev E0 : XK := fun _ _ _ => False
theorem pass0 {X : Cx} : Passes CX0 X E0 := fun _ _ _ _ _ _ _ h => h.elim

structure Fun (K : PySem.W.Frag) (x qual : Str) (st : Stmt) (f : Addr) (fd : FuncData) : Prop where
  ex : ∃ (oc : Value) (od : Option Addr) (kV doc pm : Value) (an : Option Addr) (cdv ct : Value) (osl : Array (Option Value)),
    fd = PySem.W.fnOf x qual (defArgs st) (defBody st) (defScope st) .none kV doc pm an cdv ct ∧ K.lookup f = some ⟨oc, od, .func fd, osl⟩ ∧ PySem.W.codeIn K cdv qual = true
  kp : PySem.W.keepIn K (.ref f) = true
section
variable {P : Program} {w : World} {K : PySem.W.Frag} {mg : Str → Option Value} {base : Heap}
theorem Fun.ok {x qual : Str} {st : Stmt} {f : Addr} {fd : FuncData} {N ps : List Str} {k : Nat} {sp : Sp} (F : Fun K x qual st f fd) (S : FnScope N ps (defScope st)) (len : ∀ vs H Q E, sp vs H Q E → vs.length = ps.length)
    (hbody : ∀ (cdv : Value) (A : Around) (outer : List Env) (s : Shared) (H : Hp) (vs : List V) (Q : VK) (E : XK), Room k (A.deeper (envOfC qual (defScope st) s.heap.objs.size f cdv)) → sp vs H Q E →
      ∃ t, PSs (cxOf CX0 P w K mg base N qual (defScope st) f cdv A outer s H E).nox (defBody st) t ∧ t { nx := fun _ H' => Q .non H', rt := Q } (start N vs) H) : FnOk P w K mg base CX0 (k + 1) f fd ps sp := by
  obtain ⟨oc, od, kV, doc, pm, an, cdv, ct, osl, rfl, lk, hcd⟩ := F.ex
  refine fn_of lk hcd S len fun A outer s H vs Q E hr hsp => ?_
  obtain ⟨t, h, q⟩ := hbody cdv A outer s H vs Q E hr hsp
  exact ⟨t, h.nox, q⟩
theorem Fun.binds {x qual : Str} {st : Stmt} {f : Addr} {fd : FuncData} {ps : List Str} (F : Fun K x qual st f fd)
    (h : ∀ (kV doc pm : Value) (an : Option Addr) (cdv ct : Value) (us : List Value), us.length = ps.length → bindArgs (PySem.W.fnOf x qual (defArgs st) (defBody st) (defScope st) .none kV doc pm an cdv ct) ⟨us, []⟩ = pure (ps.zip us)) : Binds K fd ps [] := by
  obtain ⟨oc, od, kV, doc, pm, an, cdv, ct, osl, rfl, lk, hcd⟩ := F.ex
  exact .all (h kV doc pm an cdv ct)
theorem fun_mk {x qual : Str} {st : Stmt} {f : Addr} {oc : Value} {od an : Option Addr} {osl : Array (Option Value)} {kV doc pm cdv ct : Value} (l : K.lookup f = some ⟨oc, od, .func (PySem.W.fnOf x qual (defArgs st) (defBody st) (defScope st) .none kV doc pm an cdv ct), osl⟩)
    (c : PySem.W.codeIn K cdv qual = true) (k : PySem.W.keepIn K (.ref f) = true) : Fun K x qual st f (PySem.W.fnOf x qual (defArgs st) (defBody st) (defScope st) .none kV doc pm an cdv ct) := ⟨⟨oc, od, kV, doc, pm, an, cdv, ct, osl, rfl, l, c⟩, k⟩
end
theorem hu_of {A : Around} {k : Nat} (hr : Room k A) : A.units + 1 < cLine := Nat.lt_of_le_of_lt (Nat.add_le_add_left (by decide : 1 ≤ 64) _) hr.units
section
variable {X : Cx}
theorem pv (i : Nat) {x : Str} {pos : Pos} (hN : X.N[i]? = some x := by rfl) (hv : Vis X.env.scope x := by first | exact Or.inl rfl | exact Or.inr (Or.inl rfl) | exact Or.inr (Or.inr rfl)) (hd : (x == ("__debug__" : Str)) = false := by decide)
    (hcd : (x == ("__classdict__" : Str)) = false := by decide) : PE X (.Name x pos) (tVar i) := pe_var hN hv hd hcd
end

theorem iteF {A B : Prop} (h : B) : if false = true then A else B := by
  rw [if_neg Bool.false_ne_true]
  exact h
theorem iteT {A B : Prop} (h : A) : if true = true then A else B := by
  rw [if_pos rfl]
  exact h
theorem ite2 {c A B : Prop} [Decidable c] (h1 : c → A) (h2 : ¬ c → B) : if c then A else B := by
  by_cases h : c
  · rw [if_pos h]
    exact h1 h
  · rw [if_neg h]
    exact h2 h
def Same (H H' : Hp) : Prop := ∀ b o, H b = some o → H' b = some o
theorem Same.refl (H : Hp) : Same H H := fun _ _ h => h
theorem Same.trans {H H1 H2 : Hp} (a : Same H H1) (b : Same H1 H2) : Same H H2 := fun c o h => b c o (a c o h)
theorem Same.free {H H' : Hp} (e : Same H H') {l : Addr} (h : H' l = Option.none) : H l = Option.none := by
  cases q : H l with
  | none => rfl
  | some o =>
    rw [e l o q] at h
    cases h
theorem Same.seq {K : PySem.W.Frag} {H H' : Hp} {a : Addr} {xs : List V} (e : Same H H') (h : SqL K H a xs) : SqL K H' a xs := by
  rcases h with (h | ⟨o, h⟩) | h
  · exact .inl (.inl (e _ _ h))
  · exact .inl (.inr ⟨o, e _ _ h⟩)
  · exact .inr h

end L2
set_option Elab.async false
set_option linter.all false
set_option maxRecDepth 100000
namespace L2
open PySem PySem.Spec PyProof.Rows

def clOf (env : Env) : List (Str × NameKind) → List (Str × Addr) → List (Str × Addr)
  | [], acc => acc
  | (n, k) :: r, acc => if k == .free then (match env.cells.lookup n with | some c => clOf env r ((n, c) :: acc) | none => clOf env r acc) else clOf env r acc

theorem clo_loop {env : Env} : ∀ (names : List (Str × NameKind)) (acc : List (Str × Addr)), (∀ y ∈ names, y.2 = .free → ∃ c, env.cells.lookup y.1 = some c) →
    (forIn names acc fun (x : Str × NameKind) (r : List (Str × Addr)) => (match x with
      | (name, kind) => if (kind == NameKind.free) = true then (do let a ← cellOf env name; pure (ForInStep.yield ((name, a) :: r))) else pure (ForInStep.yield r) : Sem (ForInStep (List (Str × Addr))))) = (pure (clOf env names acc) : Sem _)
  | [], acc, _ => rfl
  | (n, k) :: r, acc, h => by
    have ih := fun acc => clo_loop r acc fun y hy => h y (List.mem_cons_of_mem _ hy)
    rw [List.forIn_cons]
    by_cases hk : (k == NameKind.free) = true
    · obtain ⟨c, hc⟩ := h (n, k) List.mem_cons_self (by simpa using hk)
      have e1 : clOf env ((n, k) :: r) acc = clOf env r ((n, c) :: acc) := by
        show (if k == .free then _ else _) = _
        rw [if_pos hk]; simp only at hc; rw [hc]
      simp only at hc
      rw [e1, ← ih]
      simp only [hk, if_true, cellOf, hc]
      rfl
    · have e1 : clOf env ((n, k) :: r) acc = clOf env r acc := by
        show (if k == .free then _ else _) = _
        rw [if_neg hk]
      rw [e1, ← ih]
      simp only [hk, if_false]
      rfl
theorem clo_of {env : Env} {scope : Scope} (h : ∀ y ∈ scope.names, y.2 = .free → ∃ c, env.cells.lookup y.1 = some c) : closureFor scope env = pure (clOf env scope.names []) := by
  unfold closureFor
  have e := clo_loop scope.names [] h
  show (forIn scope.names [] _ >>= _) = _
  exact (congrArg (fun z => z >>= fun r => pure r) e).trans rfl
theorem clOf_mem {env : Env} : ∀ (names : List (Str × NameKind)) (acc : List (Str × Addr)) (n : Str) (c : Addr), (n, c) ∈ clOf env names acc → (n, c) ∈ acc ∨ env.cells.lookup n = some c
  | [], _, _, _, h => .inl h
  | (m, k) :: r, acc, n, c, h => by
    by_cases hk : (k == NameKind.free) = true
    · rw [show clOf env ((m, k) :: r) acc = (match env.cells.lookup m with | some c => clOf env r ((m, c) :: acc) | none => clOf env r acc) from if_pos hk] at h
      cases e : env.cells.lookup m with
      | none => rw [e] at h; exact clOf_mem r acc n c h
      | some d =>
        rw [e] at h
        rcases clOf_mem r _ n c h with q | q
        · rcases List.mem_cons.mp q with q | q
          · cases q; exact .inr e
          · exact .inl q
        · exact .inr q
    · rw [show clOf env ((m, k) :: r) acc = clOf env r acc from if_neg hk] at h
      exact clOf_mem r acc n c h
theorem clOf_has {env : Env} : ∀ (names : List (Str × NameKind)) (acc : List (Str × Addr)) (n : Str), ((∃ c, (n, c) ∈ acc) ∨ ((n, NameKind.free) ∈ names ∧ ∃ c, env.cells.lookup n = some c)) → ∃ c, (n, c) ∈ clOf env names acc
  | [], _, _, h => by
    rcases h with h | ⟨h, _⟩
    · exact h
    · cases h
  | (m, k) :: r, acc, n, h => by
    by_cases hk : (k == NameKind.free) = true
    · rw [show clOf env ((m, k) :: r) acc = (match env.cells.lookup m with | some c => clOf env r ((m, c) :: acc) | none => clOf env r acc) from if_pos hk]
      cases e : env.cells.lookup m with
      | none =>
        refine clOf_has r acc n ?_
        rcases h with h | ⟨h, c, hc⟩
        · exact .inl h
        · rcases List.mem_cons.mp h with h | h
          · cases h; rw [e] at hc; cases hc
          · exact .inr ⟨h, c, hc⟩
      | some d =>
        refine clOf_has r _ n ?_
        rcases h with ⟨c, h⟩ | ⟨h, c, hc⟩
        · exact .inl ⟨c, List.mem_cons_of_mem _ h⟩
        · rcases List.mem_cons.mp h with h | h
          · cases h; exact .inl ⟨d, List.mem_cons_self⟩
          · exact .inr ⟨h, c, hc⟩
    · rw [show clOf env ((m, k) :: r) acc = clOf env r acc from if_neg hk]
      refine clOf_has r acc n ?_
      rcases h with h | ⟨h, c, hc⟩
      · exact .inl h
      · rcases List.mem_cons.mp h with h | h
        · cases h; exact absurd rfl hk
        · exact .inr ⟨h, c, hc⟩
theorem lookup_memS {β : Type} : ∀ {l : List (Str × β)} {a : Str} {b : β}, l.lookup a = some b → (a, b) ∈ l := PySem.mem_of_lookup_some
theorem mem_lookupS {β : Type} : ∀ {l : List (Str × β)} {a : Str} {b : β}, (a, b) ∈ l → ∃ c, l.lookup a = some c
  | (k, v) :: l, a, b, h => by
    rw [List.lookup_cons]
    by_cases e : (a == k) = true
    · rw [e]; exact ⟨v, rfl⟩
    · have e' : (a == k) = false := by simpa using e
      rw [e']
      rcases List.mem_cons.mp h with h | h
      · cases h; simp at e
      · exact mem_lookupS h
theorem lookup_relabel {env : Env} (x : Str) : ∀ (names : List (Str × NameKind)),
    (names.map fun (n, k) => if (k == NameKind.free && env.scope.kind == .function && env.kindOf n == some .cell) then (n, NameKind.cell) else (n, k)).lookup x =
      (names.lookup x).map fun k => if (k == NameKind.free && env.scope.kind == .function && env.kindOf x == some .cell) then NameKind.cell else k
  | [] => rfl
  | (n, k) :: r => by
    have ih := lookup_relabel (env := env) x r
    rw [List.map_cons]
    by_cases e : (x == n) = true
    · have en : x = n := by simpa using e
      subst en
      dsimp only
      by_cases c : (k == NameKind.free && env.scope.kind == .function && env.kindOf x == some .cell) = true
      · rw [if_pos c, List.lookup_cons, List.lookup_cons, e]
        simp only [Option.map_some, c, if_true]
      · rw [if_neg c, List.lookup_cons, List.lookup_cons, e]
        simp only [Option.map_some, c]
        rfl
    · have e' : (x == n) = false := by simpa using e
      dsimp only
      by_cases c : (k == NameKind.free && env.scope.kind == .function && env.kindOf n == some .cell) = true
      · rw [if_pos c, List.lookup_cons, List.lookup_cons, e']; exact ih
      · rw [if_neg c, List.lookup_cons, List.lookup_cons, e']; exact ih

def cxComp (X : Cx) (scope : Scope) (N : List Str) (C : Addr) (s0 : Shared) (H0 : Hp) (fp : List Addr) : Cx where
  prog := X.prog
  w := X.w
  K := X.K
  mg := X.mg
  base := X.base
  A := X.A
  N := N
  s₀ := s0
  H₀ := H0
  env := compEnvC scope (clOf X.env scope.names []) C X.env
  outer := X.stack
  stack := X.stack
  ex := fp
  fn := fun _ => false
  calm := X.calm
  pn := []
  xe := fun _ _ => False
def compCheck (sc scope : Scope) (own : List Str) (frn : List Str) : Bool :=
  scope.kind == .function && scope.names.all (fun y => y.2 != .cell) && scope.names.all (fun y => y.2 != .local || scope.names.lookup y.1 == some .local) &&
  scope.names.all (fun y => y.2 != .free || sc.names.lookup y.1 == some .cell || sc.names.lookup y.1 == some .free) && decide (own ++ frn).Nodup &&
  own.all (fun x => scope.names.lookup x == some .local) && frn.all (fun x => scope.names.lookup x == some .free)
def blk (own : Nat) (fr : List Nat) (σ : St) : St := List.replicate own none ++ fr.map fun j => (σ[j]?).join
structure CompOk (X : Cx) (scope : Scope) (own : List Str) (fr : List Nat) (frn : List Str) : Prop where
  ck : compCheck X.env.scope scope own frn = true
  ix : ∀ (k : Nat) (x : Str), frn[k]? = some x → ∃ j : Nat, fr[k]? = some j ∧ X.N[j]? = some x
  len : fr.length = frn.length
section
variable {X : Cx} {scope : Scope} {own frn : List Str} {fr : List Nat}
theorem CompOk.parts (S : CompOk X scope own fr frn) : scope.kind = .function ∧ (∀ y ∈ scope.names, y.2 ≠ .cell) ∧ (∀ y ∈ scope.names, y.2 = .local → scope.names.lookup y.1 = some .local) ∧
    (∀ y ∈ scope.names, y.2 = .free → X.env.scope.names.lookup y.1 = some .cell ∨ X.env.scope.names.lookup y.1 = some .free) ∧ (own ++ frn).Nodup ∧ (∀ x ∈ own, scope.names.lookup x = some .local) ∧ ∀ x ∈ frn, scope.names.lookup x = some .free := by
  have h := S.ck
  unfold compCheck at h
  simp only [Bool.and_eq_true, List.all_eq_true, decide_eq_true_eq, Bool.or_eq_true, bne_iff_ne, ne_eq, beq_iff_eq] at h
  obtain ⟨⟨⟨⟨⟨⟨h1, h2⟩, h3⟩, h4⟩, h5⟩, h6⟩, h7⟩ := h
  refine ⟨h1, h2, fun y hy e => ?_, fun y hy e => ?_, h5, h6, h7⟩
  · rcases h3 y hy with z | z
    · exact absurd e z
    · exact z
  · rcases h4 y hy with (z | z) | z
    · exact absurd e z
    · exact .inl z
    · exact .inr z
theorem blk_length (S : CompOk X scope own fr frn) (σ : St) : (blk own.length fr σ).length = (own ++ frn).length := by
  unfold blk
  rw [List.length_append, List.length_append, List.length_replicate, List.length_map, S.len]

theorem inv_comp {pins : List (Addr × Obj)} {σ : St} {H : Hp} {s : Shared} {fp : List Addr} {h1 : Heap} {tk : Nat} {C D : Addr} {oD : Obj} {m : Str → Option Value} (I : Inv X pins σ H s) (S : CompOk X scope own fr frn)
    (hfp : ∀ b ∈ fp, FpOk X pins H b) (hlt : ∀ b ∈ fp, b < s.heap.objs.size) (hC : s.heap.objs.size ≤ C) (hn : h1.Ns C m) (hk : ∀ b o, s.heap.get? b = some o → h1.get? b = some o)
    (hD : s.heap.objs.size ≤ D) (hDC : D ≠ C) (hoD : h1.get? D = some oD) (hdD : ∀ v, oD.data ≠ .cell v) :
    Inv (cxComp X scope (own ++ frn) C s H fp) [(D, oD)] (blk own.length fr σ) H { s with heap := h1, toks := tk } := by
  obtain ⟨p1, p2, p3, p4, p5, p6, p7⟩ := S.parts
  have below : ∀ b, b < s.heap.objs.size → b ≠ C := fun b hb z => Nat.lt_irrefl _ (Nat.lt_of_lt_of_le (z ▸ hb) hC)
  have clsub : ∀ x c, (clOf X.env scope.names []).lookup x = some c → X.env.cells.lookup x = some c := fun x c e => by
    rcases clOf_mem _ _ _ _ (lookup_memS e) with q | q
    · cases q
    · exact q
  have clt : ∀ x c, X.env.cells.lookup x = some c → c < s.heap.objs.size := fun x c e => by
    obtain ⟨v, q⟩ := I.cell x c e
    exact q.lt
  have nstk : ∀ b ∈ fp, b ∉ frs X.stack := fun b hb z => by
    obtain ⟨_, f1, f2, _⟩ := hfp b hb
    rcases List.mem_cons.mp (I.stkSub b z) with e | e
    · exact f1 e
    · exact f2 e
  have Dfs : D ∉ frs X.stack := fun z => by
    have q := I.stkSub D z
    rcases List.mem_cons.mp q with e | e
    · exact Nat.lt_irrefl _ (Nat.lt_of_lt_of_le (e ▸ I.lt : D < _) hD)
    · exact I.nofs hD e
  refine ⟨⟨I.ok.mod, p1, I.ok.glob, I.ok.blt, hC, fun x y c e1 e2 => I.ok.inj x y c (clsub x c e1) (clsub y c e2), fun x hx => ?_, fun x c e => absurd e (by show ¬ (false = true); decide), I.ok.hd, I.ok.frames, .inl rfl, fun b hb => ?_, I.bs, Nat.le_trans I.ok.bsz I.sz, fun b o e hb => ?_, nstk, I.stack, I.stkFree⟩,
    rfl, I.bare, Un.kept hk, ⟨m, hn, fun i x v e1 e2 e3 => ?_⟩, fun x c e => ?_, I.hok.fresh hC, fun x c e => I.freeC x c (clsub x c e), fun p hp => ?_, I.hok.kept hk, blk_length S σ⟩
  · -- has
    have hx' : (relabel scope X.env).names.lookup x = some .cell ∨ (relabel scope X.env).names.lookup x = some .free := hx
    have hl : (relabel scope X.env).names.lookup x = _ := lookup_relabel (env := X.env) x scope.names
    rw [hl] at hx'
    cases e : scope.names.lookup x with
    | none =>
      rw [e] at hx'
      rcases hx' with z | z <;> cases z
    | some k =>
      have hmem := lookup_memS e
      have hkf : k = .free := by
        rw [e] at hx'
        simp only [Option.map_some, Option.some.injEq] at hx'
        by_cases c : (k == NameKind.free && X.env.scope.kind == .function && X.env.kindOf x == some .cell) = true
        · simp only [Bool.and_eq_true, beq_iff_eq] at c
          exact c.1.1
        · rw [if_neg c] at hx'
          rcases hx' with z | z
          · exact absurd z (p2 _ hmem)
          · exact z
      subst hkf
      obtain ⟨c, hc⟩ := I.ok.has x (p4 _ hmem rfl)
      obtain ⟨c', hc'⟩ := clOf_has (env := X.env) scope.names [] x (.inr ⟨hmem, c, hc⟩)
      exact mem_lookupS hc'
  · -- exf
    refine ⟨below b (hlt b hb), fun x c e => ?_⟩
    exact (hfp b hb).2.2.2.2.1 x c (clsub x c e)
  · -- noex
    rcases (hfp b hb).2.2.2.1 with z | z
    · exact I.ok.noex b o e z
    · exact absurd (Nat.lt_of_lt_of_le (Heap.lt_size (I.ok.bs b o e).1) z) (Nat.lt_irrefl _)
  · -- loc
    show ∃ u, RelV v u ∧ Look _ _ _ x u
    have e1' : (own ++ frn)[i]? = some x := e1
    have e2' : (blk own.length fr σ)[i]? = some (some v) := e2
    unfold blk at e2'
    by_cases hi : i < own.length
    · rw [List.getElem?_append_left (by simpa using hi), List.getElem?_replicate] at e2'
      rw [if_pos hi] at e2'
      cases e2'
    · rw [List.getElem?_append_right (by simpa using hi)] at e2'
      rw [List.getElem?_append_right (by omega)] at e1'
      rw [List.length_replicate, List.getElem?_map] at e2'
      obtain ⟨j, hj1, hj2⟩ := S.ix _ _ e1'
      rw [hj1] at e2'
      simp only [Option.map_some, Option.some.injEq] at e2'
      have hσ : σ[j]? = some (some v) := by
        cases q : σ[j]? with
        | none => rw [q] at e2'; cases e2'
        | some w => rw [q] at e2'; exact congrArg some e2'
      have hfree := p7 x (List.mem_of_getElem? e1')
      have hmem := lookup_memS hfree
      have kx := p4 _ hmem rfl
      have vis : Vis X.env.scope x := by
        rcases kx with z | z
        · exact .inr (.inl z)
        · exact .inr (.inr z)
      obtain ⟨m0, hn0, hl0⟩ := I.loc
      obtain ⟨u, ru, lk⟩ := hl0 j x v hj2 hσ vis
      refine ⟨u, ru, .inr ⟨?_, ?_⟩⟩
      · show (relabel scope X.env).names.lookup x = some .cell ∨ (relabel scope X.env).names.lookup x = some .free
        have hl : (relabel scope X.env).names.lookup x = _ := lookup_relabel (env := X.env) x scope.names
        rw [hl, hfree]
        simp only [Option.map_some, Option.some.injEq]
        by_cases c : (NameKind.free == NameKind.free && X.env.scope.kind == .function && X.env.kindOf x == some .cell) = true
        · rw [if_pos c]; exact .inl rfl
        · rw [if_neg c]; exact .inr rfl
      · rcases lk with ⟨kl, _⟩ | ⟨_, c, hc, hcell⟩
        · have kl' : X.env.scope.names.lookup x = some .local := kl
          rcases kx with z | z <;> (have z' : X.env.scope.names.lookup x = _ := z; rw [kl'] at z'; cases z')
        · obtain ⟨c', hc'⟩ := clOf_has (env := X.env) scope.names [] x (.inr ⟨hmem, c, hc⟩)
          obtain ⟨c2, hc2⟩ := mem_lookupS hc'
          have ec : c2 = c := by
            have := clsub x c2 hc2
            rw [hc] at this
            exact (Option.some.inj this).symm
          subst ec
          obtain ⟨oc, ho, hd⟩ := hcell
          exact ⟨c2, hc2, oc, hk _ _ ho, hd⟩
  · obtain ⟨v, o, ho, hd⟩ := I.cell x c (clsub x c e)
    exact ⟨v, o, hk _ _ ho, hd⟩
  · have hp' : p ∈ ([] : List (Addr × Obj)) ++ [(D, oD)] := hp
    simp only [List.nil_append, List.mem_singleton] at hp'
    subst hp'
    exact ⟨hoD, I.hok.fresh hD, hDC, Dfs, hdD⟩
end
end L2
set_option Elab.async false
set_option linter.all false
set_option maxRecDepth 100000
namespace L2
open PySem PySem.Spec PyProof.Rows

theorem compLoop_go {prog : Program} {w : World} {A : Around} {R : Result → Shared → Prop} {s : Shared} {elt target iter : Expr} {ifs : List Expr} {scope : Scope} {pos : Pos} {it acc : Value} {env : Env} (I : Nat → Shared → Prop)
    (turn : ∀ n s, I n s → wpAny (model prog w) A (pyNext it) (fun r s₁ => match r with
      | none => R (.ok .next) s₁
      | some v => wpAny (model prog w) A (letOwnedTupleGo target it v) (fun _ s₁' => wpAny (model prog w) A (assign target env v) (fun _ s₂ =>
          wpAny (model prog w) A (forIn ifs true fun c r => if r = true then do let ok ← isTrue c env (eval c env); pure (ForInStep.yield ok) else pure (ForInStep.yield r)) (fun ok s₃ =>
            if ok = true then wpAny (model prog w) A (eval elt env) (fun x s₄ =>
              wpAny (model prog w) A (call (.builtin "list.append") [acc, x]) (fun _ s₅ => ∃ m, m < n ∧ I m s₅) (fun _ _ => False) s₄) (fun _ _ => False) s₃
            else ∃ m, m < n ∧ I m s₃) (fun _ _ => False) s₂) (fun _ _ => False) s₁') (fun _ _ => False) s₁) (fun _ _ => False) s)
    (n : Nat) (h : I n s) :
    codeAny (model prog w) A (.compLoop (.ListComp elt [⟨target, iter, ifs, 0⟩] scope pos) 0 it acc env) R s := by
  refine codeAny_loop rfl I (fun n s hI => ?_) n h
  show wpAny _ A ((compTurn (.ListComp elt [⟨target, iter, ifs, 0⟩] scope pos) 0 it acc env).onRaise (fun x => do noteFrame x env; theTreesLotGoes x)) _ _ s
  refine wpAny_noted ?_
  rw [compTurn_list]
  refine wpAny_bind (wpAny_standAt (wpAny_bind (wpAny_mono (turn n s hI) (fun r s₁ h₁ => ?_) fun _ _ h' => h'.elim)))
  cases r with
  | none => exact wpAny_pure h₁
  | some v =>
    refine wpAny_bind (wpAny_mono h₁ (fun _ s₁' h₁' => ?_) fun _ _ h' => h'.elim)
    refine wpAny_bind (wpAny_mono h₁' (fun _ s₂ h₂ => wpAny_bind (wpAny_mono h₂ (fun ok s₃ h₃ => ?_) fun _ _ h' => h'.elim)) fun _ _ h' => h'.elim)
    cases ok with
    | false => exact wpAny_pure ⟨rfl, h₃⟩
    | true =>
      exact wpAny_bind (wpAny_bind (wpAny_mono h₃ (fun x s₄ h₄ => wpAny_bind (wpAny_mono h₄ (fun _ s₅ h₅ => wpAny_pure (wpAny_pure ⟨rfl, h₅⟩)) fun _ _ h' => h'.elim)) fun _ _ h' => h'.elim))

def PF (X : Cx) (ifs : List Expr) (t : TT) : Prop :=
  ∀ (pins : List (Addr × Obj)) (s : Shared) (σ : St) (H : Hp) (Q : Bool → Hp → Prop), Inv X pins σ H s → t σ H Q →
    wpAny (model X.prog X.w) X.A (forIn ifs true fun c r => if r = true then do let ok ← isTrue c X.env (eval c X.env); pure (ForInStep.yield ok) else pure (ForInStep.yield r)) (TP X pins σ Q) X.xe s
def tAll : TT := fun _ H Q => Q true H
theorem pf_nil {X : Cx} : PF X [] tAll := fun _ _ _ H _ I h => wpAny_tests_nil ⟨H, I, h⟩
theorem pf_one {X : Cx} {c : Expr} {t : TT} (h : PT X c t) : PF X [c] t := fun pins s σ H Q I hq => wpAny_tests_one (h pins s σ H Q I hq)

def tComp (own : Nat) (fr : List Nat) (wi : TI) (g : TG) (tt : TT) (te : TE) : TE := fun σ H Q => wi σ H fun J H1 => ∃ W : Nat → Nat → List V → St → Hp → Prop, (∃ m, W 0 m [] (blk own fr σ) H1) ∧ ∀ i m ys σ' H, W i m ys σ' H →
  (J.stop i H ∧ ∀ p, H p = none → Q (.ref p) (upd H p (.lst ys))) ∨
  (J.go i H ∧ ∃ N : List V → St → Hp → Prop, (∀ ys' σ2 H2, N ys' σ2 H2 → ∃ m', m' < m ∧ W (i + 1) m' ys' σ2 H2) ∧
    ∀ x H', J.yld i H x H' → g x σ' H' fun σ2 H2 => tt σ2 H2 fun b H3 => if b = true then te σ2 H3 fun y H4 => ys.length < sizeLine ∧ N (ys ++ [y]) σ2 H4 else N ys σ2 H3)

section
variable {X : Cx} {scope : Scope} {own frn : List Str} {fr : List Nat} {elt tg iter : Expr} {ifs : List Expr} {pos : Pos} {wi : TI} {g : TG} {tt : TT} {te : TE}

theorem Inv.track {pins : List (Addr × Obj)} {σ : St} {H : Hp} {s : Shared} {D : Addr} {ys : List V} {its : Array Value} (I : Inv X pins σ H s) (hD : s.heap.PlainList D its) (hv : Vals ys its.toList) (hz : ys.length ≤ sizeLine) (hn : H D = none) (hL : D ≠ X.env.locals)
    (h1 : X.s₀.heap.objs.size ≤ D) (h2 : ∀ x c, X.env.cells.lookup x = some c → c ≠ D) (h3 : ∀ p ∈ X.pn ++ pins, p.1 ≠ D) : Inv X pins σ (upd H D (.lst ys)) s := by
  have ne : ∀ b u, H b = some u → b ≠ D := fun b u e z => by rw [z, hn] at e; cases e
  refine I.step (g' := s.gens) (d' := s.drawn) (t' := s.toks) (h' := s.heap) (ch := [D]) (fun b hb => ?_) (fun b o _ _ _ e _ => e) (fun b o _ _ _ e _ => ⟨o.slots, e⟩) (fun b o hc _ n => ?_) (fun b o _ e => ⟨o, e⟩)
    (fun b xs e => by rw [upd_ne (ne b _ e)]; exact e) (fun b o u e => by rw [upd_ne (ne b _ e)]; exact e) (fun b ps e => ⟨#[], by rw [upd_ne (ne b _ e), e]; simp⟩) (fun _ h => h) (fun b u e => ?_) I.bare
  · have e : b = D := by simpa using hb
    subst e
    exact ⟨.inr h1, hL, h2, h3⟩
  · rw [upd_ne (by simpa using hc)]; exact n
  · by_cases hb : b = D
    · subst hb
      rw [upd_same] at e; cases e
      obtain ⟨n, e⟩ := hD
      exact ⟨hz, its.toList, n, hv, by simpa using e⟩
    · rw [upd_ne hb] at e
      exact (I.hok b u e).stay (fun c v _ q => q) (fun c q => by rw [upd_ne (ne c _ q)]; exact q) fun c xs q => by rw [upd_ne (ne c _ q)]; exact q

theorem comp_block {pins : List (Addr × Obj)} {σ : St} {H2 : Hp} {s2 : Shared} {it : Addr} {fp : List Addr} {tn : Nat → Heap → Prop} {J : It} {RR : Value → Addr → Result → Shared → Prop} {E : Value → Shared → Prop} {Q : Hp → List V → Prop}
    (S : CompOk X scope own fr frn) (hc : X.calm = true) (I2 : Inv X pins σ H2 s2) (T : Turn X.prog X.w X.K tg J fp it tn) (st2 : tn 0 s2.heap) (f2 : ∀ b ∈ fp, FpOk X pins H2 b)
    (hg : ∀ C s0 H0 fp, PG (cxComp X scope (own ++ frn) C s0 H0 fp) tg g) (ht : ∀ C s0 H0 fp, PF (cxComp X scope (own ++ frn) C s0 H0 fp) ifs tt) (he : ∀ C s0 H0 fp, PE (cxComp X scope (own ++ frn) C s0 H0 fp) elt te)
    (w : ∃ W : Nat → Nat → List V → St → Hp → Prop, (∃ m, W 0 m [] (blk own.length fr σ) H2) ∧ ∀ i m ys σ' H, W i m ys σ' H →
      (J.stop i H ∧ Q H ys) ∨
      (J.go i H ∧ ∃ N : List V → St → Hp → Prop, (∀ ys' σ2 H2, N ys' σ2 H2 → ∃ m', m' < m ∧ W (i + 1) m' ys' σ2 H2) ∧
        ∀ x H', J.yld i H x H' → g x σ' H' fun σ2 H2 => tt σ2 H2 fun b H3 => if b = true then te σ2 H3 fun y H4 => ys.length < sizeLine ∧ N (ys ++ [y]) σ2 H4 else N ys σ2 H3))
    (hRR : ∀ (C D : Addr) (s' : Shared) (H' : Hp) (ys : List V) (its : Array Value) (m : Str → Option Value), s2.heap.objs.size ≤ C → s2.heap.objs.size ≤ D → D ≠ C → s'.heap.Ns C m → H' C = none → H' D = none → s'.heap.PlainList D its → Vals ys its.toList → ys.length ≤ sizeLine →
      Inv X pins σ H' s' → Q H' ys → RR (.ref D) C (.ok .next) s') :
    wpAny (model X.prog X.w) X.A (newList []) (fun acc s₃ => wpAny (model X.prog X.w) X.A (newFunctionEnv scope X.env.globals (clOf X.env scope.names []) [] X.env.qual none .none (some X.env)) (fun cenv s₄ =>
      codeAny (model X.prog X.w) X.A (.compStart (.ListComp elt [⟨tg, iter, ifs, 0⟩] scope pos) 0 (.ref it) acc { cenv with scope := relabel scope X.env }) (RR acc cenv.locals) s₄) E s₃) E s2 := by
  obtain ⟨p1, p2, p3, p4, p5, p6, p7⟩ := S.parts
  obtain ⟨W, ⟨m0, w0⟩, turn⟩ := w
  refine wpAny_newObj_type (wpAny_newFunctionEnv p2 (by intro y hy; simp at hy) (fun h₁ hns₁ hsb₁ => ?_) p1)
  dsimp only at hns₁ hsb₁ ⊢
  generalize hH2 : s2.heap.push { cls := .type "list", dict := none, data := .seq ([] : List Value).toArray } = HD at hns₁ hsb₁ ⊢
  have hCs : HD.objs.size = s2.heap.objs.size + 1 := by rw [← hH2, Heap.size_push]
  have hDC : s2.heap.objs.size ≠ HD.objs.size := by omega
  have hCle : s2.heap.objs.size ≤ HD.objs.size := by omega
  have below : ∀ b, b < s2.heap.objs.size → b ≠ HD.objs.size ∧ b ≠ s2.heap.objs.size := fun b hb => ⟨by omega, by omega⟩
  have old : ∀ b o, s2.heap.get? b = some o → h₁.get? b = some o := fun b o e => hsb₁.extBut b o (below b (Heap.lt_size e)).1 (Heap.get?_push_of_some _ (hH2 ▸ Heap.get?_push_of_some _ e))
  have hacc : h₁.get? s2.heap.objs.size = some { cls := .type "list", data := .seq ([] : List Value).toArray } := hsb₁.extBut _ _ hDC (Heap.get?_push_of_some _ (hH2 ▸ Heap.get?_push_size _ rfl))
  have flt : ∀ b ∈ fp, b < s2.heap.objs.size := fun b hb => by
    obtain ⟨o, e, _⟩ := T.obj _ _ st2 b hb
    exact Heap.lt_size e
  generalize hDg : s2.heap.objs.size = D at *
  generalize hCg : HD.objs.size = C at *
  have st3 : tn 0 h₁ := T.keep _ _ _ st2 fun b _ o e => old b o e
  -- facts of the block
  have clsub : ∀ x c, (clOf X.env scope.names []).lookup x = some c → X.env.cells.lookup x = some c := fun x c e => by
    rcases clOf_mem _ _ _ _ (lookup_memS e) with q | q
    · cases q
    · exact q
  have cD : ∀ x c, (clOf X.env scope.names []).lookup x = some c → c ≠ D := fun x c e z => by
    obtain ⟨v, q⟩ := I2.cell x c (clsub x c e)
    exact Nat.lt_irrefl _ (Nat.lt_of_lt_of_le q.lt (by rw [hDg, z]; exact Nat.le_refl _))
  have loop : ∀ s₃ : Shared, s₃ = { s2 with heap := h₁, toks := s2.toks + ([] : List (Str × Value)).length } →
      codeAny (model X.prog X.w) X.A (.compLoop (.ListComp elt [⟨tg, iter, ifs, 0⟩] scope pos) 0 (.ref it) (.ref D) (compEnvC scope (clOf X.env scope.names []) C X.env)) (RR (.ref D) C) s₃ := by
    rintro s₃ rfl
    have I3 : Inv (cxComp X scope (own ++ frn) C s2 H2 fp) [(D, _)] (blk own.length fr σ) H2 { s2 with heap := h₁, toks := s2.toks + ([] : List (Str × Value)).length } :=
      inv_comp (m := fun _ => none) I2 S f2 (by rw [hDg]; exact flt) (by rw [hDg]; exact hCle) (hns₁ : h₁.Ns C _) old (by rw [hDg]; exact Nat.le_refl _) hDC hacc (fun v z => by cases z)
    have stat : ∀ {H' : Hp} {pl : List (Addr × Obj)}, (∀ p ∈ pl, p.1 = D) → (∀ b ∈ fp, H' b = none) → ∀ b ∈ fp, FpOk (cxComp X scope (own ++ frn) C s2 H2 fp) pl H' b := fun {H' pl} hpl hn b hb => by
      refine ⟨hn b hb, (below b (flt b hb)).1, fun z => ?_, .inl hb, fun x c e => (f2 b hb).2.2.2.2.1 x c (clsub x c e), fun p hp => ?_⟩
      · have z' : b ∈ frs X.stack := z
        rcases List.mem_cons.mp (I2.stkSub b z') with e | e
        · exact (f2 b hb).2.1 e
        · exact (f2 b hb).2.2.1 e
      · have hp' : p ∈ pl := by simpa [cxComp] using hp
        rw [hpl p hp']
        exact Ne.symm (below b (flt b hb)).2
    refine compLoop_go (env := compEnvC scope (clOf X.env scope.names []) C X.env) (fun n s' => ∃ i σ' H' ys its o, Inv (cxComp X scope (own ++ frn) C s2 H2 fp) [(D, o)] σ' H' s' ∧ s'.heap.PlainList D its ∧ Vals ys its.toList ∧ ys.length ≤ sizeLine ∧ tn i s'.heap ∧ (∀ b ∈ fp, H' b = none) ∧ W i n ys σ' H') ?_ m0
      ⟨0, _, H2, [], #[], _, I3, ⟨_, hacc⟩, .nil, Nat.zero_le _, st3, fun b hb => (f2 b hb).1, w0⟩
    rintro n s5 ⟨i, σ5, H5, ys, its, o, I5, pl5, v5, z5, st5, fr5, w5⟩
    have one : ∀ {o : Obj}, ∀ p ∈ [(D, o)], p.1 = D := fun p hp => by
      have e := List.mem_singleton.mp hp
      rw [e]
    rcases turn i n ys σ5 H5 w5 with ⟨stop, qn⟩ | ⟨go, N, hN, step⟩
    · refine wpAny_mono (T.done (cxComp X scope (own ++ frn) C s2 H2 fp) rfl rfl rfl hc i _ s5 σ5 H5 (fun _ _ => False) I5 (stat one fr5) st5 stop) (fun r s6 hx9 => ?_) fun _ _ z => z
      obtain ⟨hr, I6⟩ := hx9
      subst hr
      obtain ⟨m6, hn6, _⟩ := I6.loc
      have p6 := I6.pin (D, o) (by simp [cxComp])
      have p5' := I5.pin (D, o) (by simp [cxComp])
      have pl6 : s6.heap.PlainList D its := by
        obtain ⟨k, e⟩ := pl5
        have e1 : o = _ := Option.some.inj (p5'.1.symm.trans e)
        exact ⟨k, by rw [p6.1]; exact congrArg some e1⟩
      have IX : Inv X pins σ H5 s6 := I2.call' (ch := fp) I6.os I6.base I6.hok I6.bare fun b hb => ⟨(f2 b hb).2.2.2.1, (f2 b hb).2.1, (f2 b hb).2.2.2.2.1, (f2 b hb).2.2.2.2.2⟩
      exact hRR C D s6 H5 ys its m6 hCle (Nat.le_refl _) hDC hn6 I6.free p6.2.1 pl6 v5 z5 IX qn
    · refine wpAny_mono (T.item (cxComp X scope (own ++ frn) C s2 H2 fp) rfl rfl rfl hc i _ s5 σ5 H5 (fun _ _ => False) I5 (stat one fr5) st5 go) (fun r s6 hx9 => ?_) fun _ _ z => z
      obtain ⟨u, hr, h6⟩ := hx9
      subst hr
      refine wpAny_mono h6 (fun _ s7 hx9 => ?_) fun _ _ z => z
      obtain ⟨x, H7, I7, r7, y7, st7, fr7⟩ := hx9
      have I7' := I7.pinned (stat one fr7) (T.obj _ _ st7)
      refine wpAny_mono (hg C s2 H2 fp _ s7 σ5 H7 x u _ I7' r7 (step x H7 y7)) (fun _ s8 hx9 => ?_) fun _ _ z => z
      obtain ⟨σ8, H8, I8, q8⟩ := hx9
      refine wpAny_mono (ht C s2 H2 fp _ s8 σ8 H8 _ I8 q8) (fun b s9 hx9 => ?_) fun _ _ z => z
      obtain ⟨H9, I9, q9⟩ := hx9
      -- what stands of the iterator and of the gathered list behind the tests, behind the item
      have keepT : ∀ {H' : Hp} {s' : Shared} {σ' : St}, Inv (cxComp X scope (own ++ frn) C s2 H2 fp) ([(D, o)] ++ pinsAt fp s7.heap) σ' H' s' → tn (i + 1) s'.heap ∧ (∀ b ∈ fp, H' b = none) ∧ s'.heap.PlainList D its ∧ H' D = none := fun {H' s' σ'} I' => by
        refine ⟨T.keep _ _ _ st7 fun b hb o e => (I'.pin (b, o) (List.mem_append_right _ (List.mem_append_right _ (mem_pinsAt hb e)))).1, fun b hb => ?_, ?_, ?_⟩
        · obtain ⟨o, e, d⟩ := T.obj _ _ st7 b hb
          exact (I'.pin (b, o) (List.mem_append_right _ (List.mem_append_right _ (mem_pinsAt hb e)))).2.1
        · have p' := I'.pin (D, o) (by simp [cxComp])
          have p5' := I5.pin (D, o) (by simp [cxComp])
          obtain ⟨k, e⟩ := pl5
          have e1 : o = _ := Option.some.inj (p5'.1.symm.trans e)
          exact ⟨k, by rw [p'.1]; exact congrArg some e1⟩
        · exact (I'.pin (D, o) (by simp [cxComp])).2.1
      cases b with
      | false =>
        rw [if_neg Bool.false_ne_true] at q9
        rw [if_neg Bool.false_ne_true]
        obtain ⟨m', hm, w'⟩ := hN ys σ8 H9 q9
        obtain ⟨t9, fr9, pl9, _⟩ := keepT I9
        exact ⟨m', hm, i + 1, σ8, H9, ys, its, o, I9.unpinned, pl9, v5, z5, t9, fr9, w'⟩
      | true =>
        rw [if_pos rfl] at q9
        rw [if_pos rfl]
        refine wpAny_mono (he C s2 H2 fp _ s9 σ8 H9 _ I9 q9) (fun y s10 hx9 => ?_) fun _ _ z => z
        obtain ⟨yv, H10, I10, r10, lt10, q10⟩ := hx9
        obtain ⟨t10, fr10, pl10, hD10⟩ := keepT I10
        have hl := v5.length
        refine wpAny_list_append_plain pl10 (fun h11 pl11 sb11 => ?_) (by rw [← Array.length_toList, ← hl]; exact Nat.le_of_lt lt10)
        obtain ⟨m', hm, w'⟩ := hN _ σ8 H10 q10
        have I10' : Inv (cxComp X scope (own ++ frn) C s2 H2 fp) [] σ8 H10 s10 := I10.pins_of fun p hp => by cases hp
        have I11 : Inv (cxComp X scope (own ++ frn) C s2 H2 fp) [] σ8 H10 { s10 with heap := h11 } :=
          I10'.turned (t' := s10.toks) (it := D) (fun b o hb e => (sb11.2 b hb).trans e) hD10 hDC (.inr (by show s2.heap.objs.size ≤ D; rw [hDg]; exact Nat.le_refl _)) cD (fun p hp => by simp [cxComp] at hp)
        obtain ⟨k11, e11⟩ := id pl11
        have DfsX : D ∉ frs X.stack := fun z => by
          rcases List.mem_cons.mp (I2.stkSub D z) with e | e
          · exact Nat.lt_irrefl _ (Nat.lt_of_lt_of_le I2.lt (by rw [hDg, e]; exact Nat.le_refl _))
          · exact I2.nofs (by rw [hDg]; exact Nat.le_refl _) e
        refine ⟨m', hm, i + 1, σ8, H10, ys ++ [yv], its.push y, { cls := .type "list", data := .seq (its.push y) k11 }, I11.pins_of fun p hp => ?_, pl11, ?_, by rw [List.length_append]; show ys.length + 1 ≤ _; omega, T.keep _ _ _ t10 fun b hb o e => (sb11.2 b (below b (flt b hb)).2).trans e, fr10, w'⟩
        · have e := List.mem_singleton.mp hp
          subst e
          exact ⟨e11, hD10, hDC, DfsX, fun v z => by cases z⟩
        · rw [Array.toList_push]
          exact v5.append (.cons r10 .nil)
  exact codeAny_compStart_list (loop _ rfl) (T.self X.A 0 _ _ _ st3 (loop _ rfl))

theorem CompOk.clo {pins : List (Addr × Obj)} {σ : St} {H : Hp} {s : Shared} (S : CompOk X scope own fr frn) (I : Inv X pins σ H s) : closureFor scope X.env = pure (clOf X.env scope.names []) := by
  obtain ⟨p1, p2, p3, p4, p5, p6, p7⟩ := S.parts
  exact clo_of fun y hy e => I.ok.has y.1 (p4 y hy e)

theorem pe_comp (S : CompOk X scope own fr frn) (hc : X.calm = true) (hi : PI X tg iter wi) (hg : ∀ C s0 H0 fp, PG (cxComp X scope (own ++ frn) C s0 H0 fp) tg g) (ht : ∀ C s0 H0 fp, PF (cxComp X scope (own ++ frn) C s0 H0 fp) ifs tt)
    (he : ∀ C s0 H0 fp, PE (cxComp X scope (own ++ frn) C s0 H0 fp) elt te) (hs : ∀ x, foldedSetIterable iter X.env x = pure x := by intro _; rfl) :
    PE X (.ListComp elt [⟨tg, iter, ifs, 0⟩] scope pos) (tComp own.length fr wi g tt te) := by
  intro pins s σ H Q I h
  obtain ⟨p1, p2, p3, p4, p5, p6, p7⟩ := S.parts
  rw [eval_ListComp]
  refine wpAny_comprehension_free (use := none) rfl hs (S.clo I) p1 p3 (thn (hi pins s σ H _ I h) fun v s1 h1 => thn h1 fun itv s2 h2 => ?_)
  obtain ⟨it, fp, tn, J, H2, e, I2, T, st2, f2, hw⟩ := h2
  subst e
  refine comp_block (RR := fun acc C => compPost (model X.prog X.w) X.A X.xe none (EP X pins σ Q) acc C) (Q := fun H ys => ∀ p, H p = none → Q (.ref p) (upd H p (.lst ys))) S hc I2 T st2 f2 hg ht he hw ?_
  intro C D s' H' ys its m hC hD hDC hns hHC hHD pl v z IX q
  have cne : ∀ a, s2.heap.objs.size ≤ a → ∀ x c, X.env.cells.lookup x = some c → c ≠ a := fun a ha x c e z => by
    obtain ⟨v, w⟩ := I2.cell x c e
    exact Nat.lt_irrefl _ (Nat.lt_of_lt_of_le w.lt (by rw [z]; exact ha))
  have pne : ∀ a, s2.heap.objs.size ≤ a → ∀ p ∈ X.pn ++ pins, p.1 ≠ a := fun a ha p hp z => Nat.lt_irrefl _ (Nat.lt_of_lt_of_le (Heap.lt_size (I2.pin p hp).1) (by rw [z]; exact ha))
  have lne : ∀ a, s2.heap.objs.size ≤ a → a ≠ X.env.locals := fun a ha z => Nat.lt_irrefl _ (Nat.lt_of_lt_of_le I2.lt (by rw [← z]; exact ha))
  refine ⟨m, hns, fun h' hs' => ⟨.ref D, upd H' D (.lst ys), ?_, rfl, q D hHD⟩⟩
  have IT : Inv X pins σ (upd H' D (.lst ys)) s' := IX.track pl v z hHD (lne D hD) (Nat.le_trans I2.sz hD) (cne D hD) (pne D hD)
  exact IT.turned (t' := s'.toks) (it := C) (fun b o hb e => (hs'.2 b hb).trans e) (by rw [upd_ne (Ne.symm hDC)]; exact hHC) (lne C hC) (.inr (Nat.le_trans I2.sz hC)) (cne C hC) (pne C hC)

theorem ps_setcomp {i : Nat} {y : Str} {py spos : Pos} (S : CompOk X scope own fr frn) (hc : X.calm = true) (hN : X.N.Nodup) (hyi : X.N[i]? = some y) (hx : X.env.scope.names.lookup y = some .local)
    (hsw : swapsWith (.ListComp elt [⟨tg, iter, ifs, 0⟩] scope pos) (some (.Name y py)) spos.line X.env = pure true)
    (hi : PI X tg iter wi) (hg : ∀ C s0 H0 fp, PG (cxComp X scope (own ++ frn) C s0 H0 fp) tg g) (ht : ∀ C s0 H0 fp, PF (cxComp X scope (own ++ frn) C s0 H0 fp) ifs tt)
    (he : ∀ C s0 H0 fp, PE (cxComp X scope (own ++ frn) C s0 H0 fp) elt te) (hs : ∀ x, foldedSetIterable iter X.env x = pure x := by intro _; rfl) :
    PS X (.Assign [.Name y py] (.ListComp elt [⟨tg, iter, ifs, 0⟩] scope pos) spos) (tAsg (tComp own.length fr wi g tt te) (gName i)) := by
  intro pins s σ H D I h
  obtain ⟨p1, p2, p3, p4, p5, p6, p7⟩ := S.parts
  rw [exec_Assign_Name_used _ _ _ _ hsw]
  refine wpAny_bind (wpAny_standAt (wpAny_bind ?_))
  show wpAny _ X.A (do let _ ← comprehension (.ListComp elt [⟨tg, iter, ifs, 0⟩] scope pos) scope X.env _ (newList []) false (eval iter X.env) (some (assign (.Name y py) X.env))) _ _ s
  refine wpAny_bind (wpAny_mono (wpAny_comprehension_free (use := some (assign (.Name y py) X.env)) (Q := fun _ s' => SP X pins D .next s') rfl hs (S.clo I) p1 p3 (thn (hi pins s σ H _ I h) fun v s1 h1 => thn h1 fun itv s2 h2 => ?_))
    (fun _ s' hq => wpAny_pure (wpAny_pure hq)) fun _ _ e => e)
  obtain ⟨it, fp, tn, J, H2, e, I2, T, st2, f2, hw⟩ := h2
  subst e
  refine comp_block (RR := fun acc C => compPost (model X.prog X.w) X.A X.xe (some (assign (.Name y py) X.env)) (fun _ s' => SP X pins D .next s') acc C) (Q := fun H ys => ∀ p, H p = none → D.nx (σ.set i (some (.ref p))) (upd H p (.lst ys))) S hc I2 T st2 f2 hg ht he hw ?_
  intro C L s' H' ys its m hC hL hLC hns hHC hHL pl v z IX q
  have cne : ∀ a, s2.heap.objs.size ≤ a → ∀ x c, X.env.cells.lookup x = some c → c ≠ a := fun a ha x c e z => by
    obtain ⟨v, w⟩ := I2.cell x c e
    exact Nat.lt_irrefl _ (Nat.lt_of_lt_of_le w.lt (by rw [z]; exact ha))
  have pne : ∀ a, s2.heap.objs.size ≤ a → ∀ p ∈ X.pn ++ pins, p.1 ≠ a := fun a ha p hp z => Nat.lt_irrefl _ (Nat.lt_of_lt_of_le (Heap.lt_size (I2.pin p hp).1) (by rw [z]; exact ha))
  have lne : ∀ a, s2.heap.objs.size ≤ a → a ≠ X.env.locals := fun a ha z => Nat.lt_irrefl _ (Nat.lt_of_lt_of_le I2.lt (by rw [← z]; exact ha))
  have IT : Inv X pins σ (upd H' L (.lst ys)) s' := IX.track pl v z hHL (lne L hL) (Nat.le_trans I2.sz hL) (cne L hL) (pne L hL)
  show wpAny _ _ (assign (.Name y py) X.env (.ref L)) _ _ s'
  refine wpAny_assign_Name (store_ok2 IT hN hyi (.inl hx) (v := .ref L) rfl (fun s'' I'' hch => ?_) (.inr hx))
  obtain ⟨a, sb, ha⟩ := hch
  have hCa : C ≠ a := by
    rcases ha with e | e
    · rw [e]; exact lne C hC
    · exact Ne.symm (cne C hC y a e)
  refine ⟨m, hns.sameBut sb hCa, fun h' hs' => ⟨σ.set i (some (.ref L)), upd H' L (.lst ys), ?_, q L hHL⟩⟩
  exact I''.turned (t' := s''.toks) (it := C) (fun b o hb e => (hs'.2 b hb).trans e) (by rw [upd_ne (Ne.symm hLC)]; exact hHC) (lne C hC) (.inr (Nat.le_trans I2.sz hC)) (cne C hC) (pne C hC)
end

end L2
set_option Elab.async false
set_option linter.all false
set_option maxRecDepth 100000
namespace L2
open PySem PySem.Spec PyProof.Rows

inductive Kd where
  | int | bl | non | str | tup | lst | dct
  deriving DecidableEq
def KdV (K : PySem.W.Frag) (H : Hp) : V → Kd → Prop
  | .int _, k => k = .int
  | .bl _, k => k = .bl
  | .non, k => k = .non
  | .str _, k => k = .str
  | .ref p, k => (k = .lst ∧ ∃ xs, SqL K H p xs) ∨ (k = .tup ∧ ∃ xs, SqT K H p xs) ∨ (k = .dct ∧ ∃ kvs, H p = some (.dK kvs))
  | _, _ => False
section
variable {X : Cx}
theorem dK_cls {pins : List (Addr × Obj)} {σ : St} {H : Hp} {s : Shared} {p : Addr} {kvs : List (Key × V)} (I : Inv X pins σ H s) (h : H p = some (.dK kvs)) : ∃ o, s.heap.get? p = some o ∧ o.cls = .type "dict" := by
  obtain ⟨_, _, vs, _, o, es, ep, e, ex, _⟩ := I.hok p _ h
  exact ⟨o, e, ex.1⟩
theorem call_isi_int : CallR X (.builtin "isinstance") (fun xs H Q => ∃ x k, xs = [x, .ty "int"] ∧ KdV X.K H x k ∧ Q (.bl (decide (k = .int ∨ k = .bl))) H) := by
  intro pins s σ H xs us Q I r h
  obtain ⟨x, k, rfl, hk, q⟩ := h
  obtain ⟨u, t, rfl, rx, rt⟩ := vals2 r
  cases rt
  cases x with
  | int i => cases hk; obtain ⟨t, rfl⟩ := rx; exact IsiPair.int_int ⟨.bl true, H, I, rfl, q⟩
  | bl b => cases hk; cases rx; exact IsiPair.bool_int ⟨.bl true, H, I, rfl, q⟩
  | non => cases hk; cases rx; exact IsiPair.NoneType_int ⟨.bl false, H, I.tok _, rfl, q⟩
  | str y => cases hk; obtain ⟨t, rfl⟩ := rx; exact IsiPair.str_int ⟨.bl false, H, I.tok _, rfl, q⟩
  | ref p =>
    cases rx
    rcases hk with ⟨rfl, xs, hx⟩ | ⟨rfl, xs, hx⟩ | ⟨rfl, kvs, hx⟩
    · obtain ⟨its, r', pl, hz⟩ := I.list hx; exact IsiPair.isList_int pl.isList (fun _ _ e => e) ⟨.bl false, H, I.tok _, rfl, q⟩
    · obtain ⟨its, r', pl, hz⟩ := I.tuple hx; exact IsiPair.isTuple_int pl (fun _ _ e => e) ⟨.bl false, H, I.tok _, rfl, q⟩
    · obtain ⟨o, e, c⟩ := dK_cls I hx; exact IsiPair.dict_int e c ⟨.bl false, H, I.tok _, rfl, q⟩
  | _ => exact hk.elim
theorem call_isi_bool : CallR X (.builtin "isinstance") (fun xs H Q => ∃ x k, xs = [x, .ty "bool"] ∧ KdV X.K H x k ∧ Q (.bl (decide (k = .bl))) H) := by
  intro pins s σ H xs us Q I r h
  obtain ⟨x, k, rfl, hk, q⟩ := h
  obtain ⟨u, t, rfl, rx, rt⟩ := vals2 r
  cases rt
  cases x with
  | int i => cases hk; obtain ⟨t, rfl⟩ := rx; exact IsiPair.int_bool ⟨.bl false, H, I.tok _, rfl, q⟩
  | bl b => cases hk; cases rx; exact IsiPair.bool_bool ⟨.bl true, H, I, rfl, q⟩
  | non => cases hk; cases rx; exact IsiPair.NoneType_bool ⟨.bl false, H, I.tok _, rfl, q⟩
  | str y => cases hk; obtain ⟨t, rfl⟩ := rx; exact IsiPair.str_bool ⟨.bl false, H, I.tok _, rfl, q⟩
  | ref p =>
    cases rx
    rcases hk with ⟨rfl, xs, hx⟩ | ⟨rfl, xs, hx⟩ | ⟨rfl, kvs, hx⟩
    · obtain ⟨its, r', pl, hz⟩ := I.list hx; exact IsiPair.isList_bool pl.isList (fun _ _ e => e) ⟨.bl false, H, I.tok _, rfl, q⟩
    · obtain ⟨its, r', pl, hz⟩ := I.tuple hx; exact IsiPair.isTuple_bool pl (fun _ _ e => e) ⟨.bl false, H, I.tok _, rfl, q⟩
    · obtain ⟨o, e, c⟩ := dK_cls I hx; exact IsiPair.dict_bool e c ⟨.bl false, H, I.tok _, rfl, q⟩
  | _ => exact hk.elim
theorem call_isi_tuple : CallR X (.builtin "isinstance") (fun xs H Q => ∃ x k, xs = [x, .ty "tuple"] ∧ KdV X.K H x k ∧ Q (.bl (decide (k = .tup))) H) := by
  intro pins s σ H xs us Q I r h
  obtain ⟨x, k, rfl, hk, q⟩ := h
  obtain ⟨u, t, rfl, rx, rt⟩ := vals2 r
  cases rt
  cases x with
  | int i => cases hk; obtain ⟨t, rfl⟩ := rx; exact IsiPair.int_tuple ⟨.bl false, H, I.tok _, rfl, q⟩
  | bl b => cases hk; cases rx; exact IsiPair.bool_tuple ⟨.bl false, H, I.tok _, rfl, q⟩
  | non => cases hk; cases rx; exact IsiPair.NoneType_tuple ⟨.bl false, H, I.tok _, rfl, q⟩
  | str y => cases hk; obtain ⟨t, rfl⟩ := rx; exact IsiPair.str_tuple ⟨.bl false, H, I.tok _, rfl, q⟩
  | ref p =>
    cases rx
    rcases hk with ⟨rfl, xs, hx⟩ | ⟨rfl, xs, hx⟩ | ⟨rfl, kvs, hx⟩
    · obtain ⟨its, r', pl, hz⟩ := I.list hx; exact IsiPair.isList_tuple pl.isList (fun _ _ e => e) ⟨.bl false, H, I.tok _, rfl, q⟩
    · obtain ⟨its, r', pl, hz⟩ := I.tuple hx; exact IsiPair.isTuple_tuple pl (fun _ _ e => e) ⟨.bl true, H, I, rfl, q⟩
    · obtain ⟨o, e, c⟩ := dK_cls I hx; exact IsiPair.dict_tuple e c ⟨.bl false, H, I.tok _, rfl, q⟩
  | _ => exact hk.elim
theorem call_isi_list : CallR X (.builtin "isinstance") (fun xs H Q => ∃ x k, xs = [x, .ty "list"] ∧ KdV X.K H x k ∧ Q (.bl (decide (k = .lst))) H) := by
  intro pins s σ H xs us Q I r h
  obtain ⟨x, k, rfl, hk, q⟩ := h
  obtain ⟨u, t, rfl, rx, rt⟩ := vals2 r
  cases rt
  cases x with
  | int i => cases hk; obtain ⟨t, rfl⟩ := rx; exact IsiPair.int_list ⟨.bl false, H, I.tok _, rfl, q⟩
  | bl b => cases hk; cases rx; exact IsiPair.bool_list ⟨.bl false, H, I.tok _, rfl, q⟩
  | non => cases hk; cases rx; exact IsiPair.NoneType_list ⟨.bl false, H, I.tok _, rfl, q⟩
  | str y => cases hk; obtain ⟨t, rfl⟩ := rx; exact IsiPair.str_list ⟨.bl false, H, I.tok _, rfl, q⟩
  | ref p =>
    cases rx
    rcases hk with ⟨rfl, xs, hx⟩ | ⟨rfl, xs, hx⟩ | ⟨rfl, kvs, hx⟩
    · obtain ⟨its, r', pl, hz⟩ := I.list hx; exact IsiPair.isList_list pl.isList (fun _ _ e => e) ⟨.bl true, H, I, rfl, q⟩
    · obtain ⟨its, r', pl, hz⟩ := I.tuple hx; exact IsiPair.isTuple_list pl (fun _ _ e => e) ⟨.bl false, H, I.tok _, rfl, q⟩
    · obtain ⟨o, e, c⟩ := dK_cls I hx; exact IsiPair.dict_list e c ⟨.bl false, H, I.tok _, rfl, q⟩
  | _ => exact hk.elim

theorem all_range (bs : List Bool) (tr : Nat → Bool) (h : ∀ i b, bs[i]? = some b → tr i = b) : (List.range bs.length).all tr = bs.all id := by
  rw [Bool.eq_iff_iff, List.all_eq_true, List.all_eq_true]
  constructor
  · intro q b hb
    obtain ⟨i, hi⟩ := List.getElem?_of_mem hb
    have := q i (List.mem_range.mpr (List.getElem?_eq_some_iff.mp hi).1)
    rw [h i b hi] at this
    exact this
  · intro q i hi
    have hi' := List.mem_range.mp hi
    have e : bs[i]? = some bs[i] := List.getElem?_eq_getElem hi'
    rw [h i _ e]
    exact q _ (List.getElem_mem hi')
theorem call_all (hc : X.calm = true) : CallR X (.builtin "all") (fun xs H Q => ∃ (p : Addr) (bs : List Bool), xs = [.ref p] ∧ SqL X.K H p (bs.map V.bl) ∧ Q (.bl (bs.all id)) H) := by
  intro pins s σ H xs us Q I r h
  obtain ⟨p, bs, rfl, hx, q⟩ := h
  obtain ⟨u, rfl, rx⟩ := vals1 r
  cases rx
  obtain ⟨its, rv, pl, hz⟩ := I.list hx
  have hl := rv.length
  rw [List.length_map] at hl
  have hlt : p < s.heap.objs.size := by obtain ⟨o, n, e, _⟩ := pl; exact Heap.lt_size e
  refine call_all_walk (wpAny_pyIter_list pl.isList ?_)
  refine ⟨s.heap.objs.size, _, _, _, _, _, fun i => (bs[i]?).getD false, rfl, Walks.list (A := X.A.in1) (I.ok.hd hc) s.heap.objs.size p (Nat.ne_of_lt hlt) its.toArray, ⟨⟨_, Heap.get?_push_size _ rfl, rfl, rfl⟩, pl.isList.push _⟩, ?_, fun h' tk hk => ?_⟩
  · intro i v s' Q' E' hP hQ'
    have hP' : its[i]? = some v := by simpa using hP
    have hi : i < bs.length := by rw [hl]; exact (List.getElem?_eq_some_iff.mp hP').1
    obtain ⟨w, hw, rw'⟩ := rv.get (i := i) (x := .bl bs[i]) (by rw [List.getElem?_map, List.getElem?_eq_getElem hi]; rfl)
    rw [hw] at hP'
    cases hP'
    cases rw'
    have e : (bs[i]?).getD false = bs[i] := by rw [List.getElem?_eq_getElem hi]; rfl
    rw [← e]
    exact wpAny_truthy_bool hQ'
  · have e : (List.range its.toArray.size).all (fun i => (bs[i]?).getD false) = bs.all id := by
      rw [List.size_toArray, ← hl]
      exact all_range bs _ fun i b hb => by rw [hb]; rfl
    rw [e]
    refine ⟨.bl _, H, I.kept (h' := h') fun b o e => hk b o ?_ (Heap.get?_push_of_some _ e), rfl, q⟩
    intro z
    have z' : b = s.heap.objs.size := by simpa using z
    exact Nat.lt_irrefl _ (z' ▸ Heap.lt_size e)
def sumTo (ns : List Int) : Int := ns.foldr (· + ·) 0
theorem preSum_take (ns : List Int) (val : Nat → Int) (h : ∀ (i : Nat) (v : Int), ns[i]? = some v → val i = v) : ∀ j, j ≤ ns.length → preSum val j = sumTo (ns.take j)
  | 0, _ => rfl
  | j + 1, hj => by
    have ih := preSum_take ns val h j (by omega)
    have e : ns[j]? = some ns[j] := List.getElem?_eq_getElem (by omega)
    show preSum val j + val j = _
    rw [ih, h j _ e, List.take_succ, e]
    unfold sumTo
    rw [List.foldr_append]
    simp only [Option.toList_some, List.foldr_cons, List.foldr_nil, Int.add_zero]
    generalize ns[j] = v
    induction (List.take j ns) with
    | nil => simp
    | cons a l ih2 => simp only [List.foldr_cons]; omega
theorem call_sum (hc : X.calm = true) : CallR X (.builtin "sum") (fun xs H Q => ∃ (p : Addr) (ns : List Int), xs = [.ref p] ∧ SqL X.K H p (ns.map V.int) ∧ (∀ n ∈ ns, 0 ≤ n ∧ n < 1000000) ∧ ns.length ≤ 1000000 ∧ Q (.int (sumTo ns)) H) := by
  intro pins s σ H xs us Q I r h
  obtain ⟨p, ns, rfl, hx, hb, hlen, q⟩ := h
  obtain ⟨u, rfl, rx⟩ := vals1 r
  cases rx
  obtain ⟨its, rv, pl, hz⟩ := I.list hx
  have hl := rv.length
  rw [List.length_map] at hl
  have hlt : p < s.heap.objs.size := by obtain ⟨o, n, e, _⟩ := pl; exact Heap.lt_size e
  have hval : ∀ (i : Nat) (v : Int), ns[i]? = some v → (ns[i]?).getD 0 = v := fun i v e => by rw [e]; rfl
  have bnd : ∀ (ms : List Int), (∀ n ∈ ms, 0 ≤ n ∧ n < 1000000) → 0 ≤ sumTo ms ∧ sumTo ms ≤ ms.length * 1000000 := fun ms => by
    induction ms with
    | nil => intro _; exact ⟨Int.le_refl _, Int.le_refl _⟩
    | cons a l ih =>
      intro hh
      have h1 := hh a List.mem_cons_self
      have h2 := ih fun n hn => hh n (List.mem_cons_of_mem _ hn)
      have e : sumTo (a :: l) = a + sumTo l := rfl
      rw [e, List.length_cons]
      rw [Int.natCast_add]
      omega
  refine call_sum_walk (wpAny_pyIter_list pl.isList ?_)
  refine ⟨s.heap.objs.size, _, _, _, _, _, fun i => (ns[i]?).getD 0, rfl, Walks.list (A := X.A.in1) (I.ok.hd hc) s.heap.objs.size p (Nat.ne_of_lt hlt) its.toArray, ⟨⟨_, Heap.get?_push_size _ rfl, rfl, rfl⟩, pl.isList.push _⟩, ?_, ?_, ?_, fun h' tk t' hk => ?_⟩
  · intro b hb'
    rw [Heap.size_push]
    rcases List.mem_cons.mp hb' with e | e
    · rw [e]; exact Nat.lt_succ_self _
    · have e' : b = p := by simpa using e
      rw [e']; exact Nat.lt_succ_of_lt hlt
  · intro i v hP
    have hP' : its[i]? = some v := by simpa using hP
    have hi : i < ns.length := by rw [hl]; exact (List.getElem?_eq_some_iff.mp hP').1
    obtain ⟨w, hw, rw'⟩ := rv.get (i := i) (x := .int ns[i]) (by rw [List.getElem?_map, List.getElem?_eq_getElem hi]; rfl)
    rw [hw] at hP'
    cases hP'
    obtain ⟨t, rfl⟩ := rw'
    exact ⟨t, by show Value.int ns[i] t = Value.int ((ns[i]?).getD 0) t; rw [List.getElem?_eq_getElem hi]; rfl⟩
  · intro j hj
    have hj' : j < ns.length := by rw [hl]; simpa using hj
    have e : ns[j]? = some ns[j] := List.getElem?_eq_getElem hj'
    have h1 := hb _ (List.getElem_mem hj')
    have h2 := bnd (ns.take (j + 1)) fun n hn => hb n (List.mem_of_mem_take hn)
    rw [preSum_take ns _ hval (j + 1) (by omega)]
    have h3 : (ns.take (j + 1)).length ≤ 1000000 := by rw [List.length_take]; omega
    unfold InLong
    have e5 : (fun i : Nat => (ns[i]?).getD 0) j = ns[j] := by show (ns[j]?).getD 0 = _; rw [e]; rfl
    rw [e5]
    have h4 : ((ns.take (j + 1)).length : Int) * 1000000 ≤ 1000000 * 1000000 := by omega
    omega
  · have e : preSum (fun i => (ns[i]?).getD 0) its.toArray.size = sumTo ns := by
      rw [List.size_toArray, ← hl, preSum_take ns _ hval ns.length (Nat.le_refl _), List.take_length]
    rw [e]
    refine ⟨.int _, H, I.kept (h' := h') fun b o e => hk b o ?_ (Heap.get?_push_of_some _ e), ⟨_, rfl⟩, q⟩
    intro z
    have z' : b = s.heap.objs.size := by simpa using z
    exact Nat.lt_irrefl _ (z' ▸ Heap.lt_size e)
end
end L2
set_option Elab.async false
set_option linter.all false
set_option maxRecDepth 100000
namespace L2
open PySem PySem.Spec PyProof.Rows

mutual
def Den (K : PySem.W.Frag) (H : Hp) : PyData → V → Prop
  | .none, v => v = .non
  | .bool b, v => v = .bl b
  | .int i, v => v = .int i
  | .str x, v => v = .str x
  | .list ds, v => ∃ a xs, v = .ref a ∧ SqL K H a xs ∧ DenAll K H ds xs
  | .tuple ds, v => ∃ a xs, v = .ref a ∧ SqT K H a xs ∧ DenAll K H ds xs
  | .dict kvs, v => kvs = [] ∧ ∃ a, v = .ref a ∧ H a = some (.dK [])
def DenAll (K : PySem.W.Frag) (H : Hp) : List PyData → List V → Prop
  | [], xs => xs = []
  | d :: ds, xs => ∃ x r, xs = x :: r ∧ Den K H d x ∧ DenAll K H ds r
end
theorem Same.rd {H H' : Hp} {a : Addr} {u : HO} (e : Same H H') (h : Rd H a u) : Rd H' a u := by
  rcases h with h | ⟨o, h⟩
  · exact .inl (e a u h)
  · exact .inr ⟨o, e a _ h⟩
theorem Same.seqL {K : PySem.W.Frag} {H H' : Hp} {a : Addr} {xs : List V} (e : Same H H') (h : SqL K H a xs) : SqL K H' a xs := by
  rcases h with h | h
  · exact .inl (e.rd h)
  · exact .inr h
theorem Same.seqT {K : PySem.W.Frag} {H H' : Hp} {a : Addr} {xs : List V} (e : Same H H') (h : SqT K H a xs) : SqT K H' a xs := by
  rcases h with h | h
  · exact .inl (e.rd h)
  · exact .inr h
theorem Same.new {H : Hp} {p : Addr} {o : HO} (h : H p = none) : Same H (upd H p o) := fun b u e => by rw [upd_ne (ne_of_none e h)]; exact e
mutual
theorem Same.den {K : PySem.W.Frag} {H H' : Hp} (e : Same H H') : ∀ (d : PyData) (v : V), Den K H d v → Den K H' d v
  | .none, v, h => by unfold Den at h ⊢; exact h
  | .bool b, v, h => by unfold Den at h ⊢; exact h
  | .int i, v, h => by unfold Den at h ⊢; exact h
  | .str x, v, h => by unfold Den at h ⊢; exact h
  | .list ds, v, h => by unfold Den at h ⊢; obtain ⟨a, xs, h1, h2, h3⟩ := h; exact ⟨a, xs, h1, e.seqL h2, Same.denAll e ds xs h3⟩
  | .tuple ds, v, h => by unfold Den at h ⊢; obtain ⟨a, xs, h1, h2, h3⟩ := h; exact ⟨a, xs, h1, e.seqT h2, Same.denAll e ds xs h3⟩
  | .dict kvs, v, h => by unfold Den at h ⊢; obtain ⟨h1, a, h2, h3⟩ := h; exact ⟨h1, a, h2, e a _ h3⟩
theorem Same.denAll {K : PySem.W.Frag} {H H' : Hp} (e : Same H H') : ∀ (ds : List PyData) (xs : List V), DenAll K H ds xs → DenAll K H' ds xs
  | [], xs, h => by unfold DenAll at h ⊢; exact h
  | d :: ds, xs, h => by unfold DenAll at h ⊢; obtain ⟨x, r, h1, h2, h3⟩ := h; exact ⟨x, r, h1, Same.den e d x h2, Same.denAll e ds r h3⟩
end
section
variable {K : PySem.W.Frag} {H : Hp}
theorem den_int {i : Int} {v : V} : Den K H (.int i) v ↔ v = .int i := by unfold Den; exact Iff.rfl
theorem den_bool {b : Bool} {v : V} : Den K H (.bool b) v ↔ v = .bl b := by unfold Den; exact Iff.rfl
theorem den_none {v : V} : Den K H .none v ↔ v = .non := by unfold Den; exact Iff.rfl
theorem den_str {x : Str} {v : V} : Den K H (.str x) v ↔ v = .str x := by unfold Den; exact Iff.rfl
theorem den_list {ds : List PyData} {v : V} : Den K H (.list ds) v ↔ ∃ a xs, v = .ref a ∧ SqL K H a xs ∧ DenAll K H ds xs := by
  constructor
  · intro h; unfold Den at h; exact h
  · intro h; unfold Den; exact h
theorem den_tuple {ds : List PyData} {v : V} : Den K H (.tuple ds) v ↔ ∃ a xs, v = .ref a ∧ SqT K H a xs ∧ DenAll K H ds xs := by
  constructor
  · intro h; unfold Den at h; exact h
  · intro h; unfold Den; exact h
theorem den_dict {kvs : List (PyData × PyData)} {v : V} : Den K H (.dict kvs) v ↔ kvs = [] ∧ ∃ a, v = .ref a ∧ H a = some (.dK []) := by
  constructor
  · intro h; unfold Den at h; exact h
  · intro h; unfold Den; exact h
theorem denAll_nil {xs : List V} : DenAll K H [] xs ↔ xs = [] := by unfold DenAll; exact Iff.rfl
theorem denAll_cons {d : PyData} {ds : List PyData} {xs : List V} : DenAll K H (d :: ds) xs ↔ ∃ x r, xs = x :: r ∧ Den K H d x ∧ DenAll K H ds r := by
  constructor
  · intro h; unfold DenAll at h; exact h
  · intro h; unfold DenAll; exact h
theorem denAll_length : ∀ {ds : List PyData} {xs : List V}, DenAll K H ds xs → xs.length = ds.length
  | [], xs, h => by rw [denAll_nil.mp h]; rfl
  | d :: ds, xs, h => by
    obtain ⟨x, r, rfl, _, h3⟩ := denAll_cons.mp h
    rw [List.length_cons, List.length_cons, denAll_length h3]
theorem denAll_get : ∀ {ds : List PyData} {xs : List V} {i : Nat} {d : PyData}, DenAll K H ds xs → ds[i]? = some d → ∃ x, xs[i]? = some x ∧ Den K H d x
  | [], _, _, _, _, e => by simp at e
  | d :: ds, xs, 0, d', h, e => by
    obtain ⟨x, r, rfl, h2, _⟩ := denAll_cons.mp h
    simp at e; subst e
    exact ⟨x, rfl, h2⟩
  | d :: ds, xs, i + 1, d', h, e => by
    obtain ⟨x, r, rfl, _, h3⟩ := denAll_cons.mp h
    obtain ⟨y, h4, h5⟩ := denAll_get (i := i) (d := d') h3 (by simpa using e)
    exact ⟨y, by simpa using h4, h5⟩
theorem denAll_at {ds : List PyData} {xs : List V} {i : Nat} {x : V} (h : DenAll K H ds xs) (e : xs[i]? = some x) : ∃ d, ds[i]? = some d ∧ Den K H d x := by
  have hl := denAll_length h
  have hi : i < ds.length := by rw [← hl]; exact (List.getElem?_eq_some_iff.mp e).1
  obtain ⟨y, h1, h2⟩ := denAll_get h (List.getElem?_eq_getElem hi)
  rw [e] at h1; cases h1
  exact ⟨_, List.getElem?_eq_getElem hi, h2⟩
theorem denAll_append : ∀ {ds es : List PyData} {xs ys : List V}, DenAll K H ds xs → DenAll K H es ys → DenAll K H (ds ++ es) (xs ++ ys)
  | [], es, xs, ys, h, h' => by rw [denAll_nil.mp h]; exact h'
  | d :: ds, es, xs, ys, h, h' => by
    obtain ⟨x, r, rfl, h2, h3⟩ := denAll_cons.mp h
    exact denAll_cons.mpr ⟨x, r ++ ys, rfl, h2, denAll_append h3 h'⟩
theorem denAll_drop : ∀ {ds : List PyData} {xs : List V} (n : Nat), DenAll K H ds xs → DenAll K H (ds.drop n) (xs.drop n)
  | _, _, 0, h => h
  | [], xs, n + 1, h => by rw [denAll_nil.mp h]; exact denAll_nil.mpr rfl
  | d :: ds, xs, n + 1, h => by
    obtain ⟨x, r, rfl, h2, h3⟩ := denAll_cons.mp h
    exact denAll_drop n h3
theorem denAll_ints : ∀ {ns : List Int} {xs : List V}, DenAll K H (ns.map PyData.int) xs ↔ xs = ns.map V.int
  | [], xs => denAll_nil
  | n :: ns, xs => by
    rw [List.map_cons, denAll_cons]
    constructor
    · rintro ⟨x, r, rfl, h2, h3⟩
      rw [den_int.mp h2, denAll_ints.mp h3]
      rfl
    · intro e
      exact ⟨_, _, e, den_int.mpr rfl, denAll_ints.mpr rfl⟩
theorem den_tints {ns : List Int} {v : V} : Den K H (.tuple (ns.map .int)) v ↔ ∃ a, v = .ref a ∧ SqT K H a (ns.map V.int) := by
  rw [den_tuple]
  constructor
  · rintro ⟨a, xs, rfl, h1, h2⟩
    rw [denAll_ints.mp h2] at h1
    exact ⟨a, rfl, h1⟩
  · rintro ⟨a, rfl, h⟩
    exact ⟨a, _, rfl, h, denAll_ints.mpr rfl⟩
theorem den_lints {ns : List Int} {v : V} : Den K H (.list (ns.map .int)) v ↔ ∃ a, v = .ref a ∧ SqL K H a (ns.map V.int) := by
  rw [den_list]
  constructor
  · rintro ⟨a, xs, rfl, h1, h2⟩
    rw [denAll_ints.mp h2] at h1
    exact ⟨a, rfl, h1⟩
  · rintro ⟨a, rfl, h⟩
    exact ⟨a, _, rfl, h, denAll_ints.mpr rfl⟩
def kdOf : PyData → Kd
  | .none => .non | .bool _ => .bl | .int _ => .int | .str _ => .str | .list _ => .lst | .tuple _ => .tup | .dict _ => .dct
theorem Den.kd {d : PyData} {v : V} (h : Den K H d v) : KdV K H v (kdOf d) := by
  cases d with
  | none => rw [den_none.mp h]; rfl
  | bool b => rw [den_bool.mp h]; rfl
  | int i => rw [den_int.mp h]; rfl
  | str x => rw [den_str.mp h]; rfl
  | list ds => obtain ⟨a, xs, rfl, h1, _⟩ := den_list.mp h; exact .inl ⟨rfl, xs, h1⟩
  | tuple ds => obtain ⟨a, xs, rfl, h1, _⟩ := den_tuple.mp h; exact .inr (.inl ⟨rfl, xs, h1⟩)
  | dict kvs => obtain ⟨_, a, rfl, h1⟩ := den_dict.mp h; exact .inr (.inr ⟨rfl, [], h1⟩)
end

section
variable {X : Cx} {pins : List (Addr × Obj)} {σ : St} {H : Hp} {s : Shared}
mutual
def noDict : PyData → Bool
  | .dict _ => false
  | .list ds => noDicts ds
  | .tuple ds => noDicts ds
  | _ => true
def noDicts : List PyData → Bool
  | [] => true
  | d :: ds => noDict d && noDicts ds
end
mutual
theorem Den.reads (I : Inv X pins σ H s) : ∀ (d : PyData) (v : V) (u : Value), noDict d = true → Den X.K H d v → RelV v u → ∃ as, Reads s.heap u d as
  | .none, v, u, _, h, r => by rw [den_none.mp h] at r; cases r; exact ⟨_, .none⟩
  | .bool b, v, u, _, h, r => by rw [den_bool.mp h] at r; cases r; exact ⟨_, .bool b⟩
  | .int i, v, u, _, h, r => by rw [den_int.mp h] at r; obtain ⟨t, rfl⟩ := r; exact ⟨_, .int i t⟩
  | .str x, v, u, _, h, r => by rw [den_str.mp h] at r; obtain ⟨t, rfl⟩ := r; exact ⟨_, .str x t⟩
  | .list ds, v, u, hn, h, r => by
    obtain ⟨a, xs, rfl, h1, h2⟩ := den_list.mp h
    cases r
    obtain ⟨its, rv, ⟨o, n, e, c, _, d⟩, _⟩ := I.list h1
    obtain ⟨as, ra⟩ := DenAll.reads I ds xs its (by unfold noDict at hn; exact hn) h2 rv
    exact ⟨_, .list e c d (by simpa using ra)⟩
  | .tuple ds, v, u, hn, h, r => by
    obtain ⟨a, xs, rfl, h1, h2⟩ := den_tuple.mp h
    cases r
    obtain ⟨its, rv, ⟨o, e, c, n, d⟩, _⟩ := I.tuple h1
    obtain ⟨as, ra⟩ := DenAll.reads I ds xs its (by unfold noDict at hn; exact hn) h2 rv
    exact ⟨_, .tuple e c d (by simpa using ra)⟩
  | .dict kvs, v, u, hn, _, _ => by unfold noDict at hn; cases hn
theorem DenAll.reads (I : Inv X pins σ H s) : ∀ (ds : List PyData) (xs : List V) (us : List Value), noDicts ds = true → DenAll X.K H ds xs → Vals xs us → ∃ as, ReadsAll s.heap us ds as
  | [], xs, us, _, h, r => by rw [denAll_nil.mp h] at r; cases r; exact ⟨_, .nil⟩
  | d :: ds, xs, us, hn, h, r => by
    obtain ⟨x, rr, rfl, h2, h3⟩ := denAll_cons.mp h
    unfold noDicts at hn
    rw [Bool.and_eq_true] at hn
    cases r with
    | cons r1 r2 =>
      obtain ⟨as, ra⟩ := Den.reads I d x _ hn.1 h2 r1
      obtain ⟨bs, rb⟩ := DenAll.reads I ds rr _ hn.2 h3 r2
      exact ⟨_, .cons ra rb⟩
end
theorem op_eqD (hu : X.A.units + 64 < cLine) : OpR X (compareOp .Eq) (fun x y H Q => ∃ d e, Den X.K H d x ∧ Den X.K H e y ∧ noDict d = true ∧ noDict e = true ∧ SeqAt.shaped d = true ∧ SeqAt.shaped e = true ∧ Q (.bl (PyData.eqv d e)) H) := by
  intro pins s σ H x y v u Q I rx ry h
  obtain ⟨d, e, hd, he, n1, n2, s1, s2, q⟩ := h
  obtain ⟨as, ra⟩ := Den.reads I d x v n1 hd rx
  obtain ⟨bs, rb⟩ := Den.reads I e y u n2 he ry
  exact eq_dataH ra rb s1 s2 hu ⟨.bl _, H, I, rfl, q⟩
theorem op_neD (hu : X.A.units + 64 < cLine) : OpR X (compareOp .NotEq) (fun x y H Q => ∃ d e, Den X.K H d x ∧ Den X.K H e y ∧ noDict d = true ∧ noDict e = true ∧ SeqAt.shaped d = true ∧ SeqAt.shaped e = true ∧ Q (.bl (!PyData.eqv d e)) H) := by
  intro pins s σ H x y v u Q I rx ry h
  obtain ⟨d, e, hd, he, n1, n2, s1, s2, q⟩ := h
  obtain ⟨as, ra⟩ := Den.reads I d x v n1 hd rx
  obtain ⟨bs, rb⟩ := Den.reads I e y u n2 he ry
  exact ne_dataH ra rb s1 s2 hu ⟨.bl _, H, I, rfl, q⟩
end
end L2
set_option Elab.async false
set_option linter.all false
set_option maxRecDepth 100000
namespace L2
open PySem PySem.Spec PyProof.Rows

section
variable {prog : Program} {w : World} {A : Around} {E : Value → Shared → Prop} {s : Shared}
end

section
variable {X : Cx}
theorem call_range1 : CallR X (.type "range") (fun xs H Q => ∃ j, xs = [.int j] ∧ ∀ p, H p = none → Q (.ref p) (upd H p (.rng 0 j))) := by
  intro pins s σ H xs us Q I r h
  obtain ⟨j, rfl, q⟩ := h
  obtain ⟨u, rfl, t, rfl⟩ := vals1 r
  refine call_range_1 ⟨.ref s.heap.objs.size, _, I.laid (fun b o e => Heap.get?_push_of_some _ e) (Nat.le_refl _) ?_, rfl, q _ (I.hok.fresh (Nat.le_refl _))⟩
  exact ⟨_, _, _, Heap.get?_push_size _ rfl⟩
def upto (n : Nat) : List Int := (List.range n).map fun (i : Nat) => (i : Int)
end
end L2
set_option Elab.async false
set_option linter.all false
set_option maxRecDepth 100000
namespace L2
open PySem PySem.Spec PyProof.Rows

def tab (L : Bool) (ns : List Nat) : SetTable := { mask := 7, place := ns.toArray, dummies := #[], finger := 0, led := L, moves := 0, plain := true }
def elts (l : List (Nat × Tok)) : Array (Int × Value) := (l.map fun p => ((p.1 : Int), Value.int (p.1 : Int) p.2)).toArray
def SX (L : Bool) (h : Heap) (a : Addr) (l : List (Nat × Tok)) : Prop := ∃ o ep, h.get? a = some o ∧ o.ExactSet ∧ o.data = .set (elts l) ep (tab L (l.map (·.1)))
section
variable {prog : Program} {w : World} {A : Around} {E : Value → Shared → Prop} {s : Shared} {L : Bool} {a : Addr}
end
end L2
set_option Elab.async false
set_option linter.all false
set_option maxRecDepth 100000
namespace L2
open PySem PySem.Spec PyProof.Rows
section
variable {prog : Program} {w : World} {A : Around} {E : Value → Shared → Prop} {s : Shared}
abbrev Led (w : World) : Bool := !(w.params.followText "set-order")
def two (a b : Nat) (t u : Tok) : List (Nat × Tok) := if a = b then [(a, t)] else if a < b then [(a, t), (b, u)] else [(b, u), (a, t)]
theorem SX.keep {L : Bool} {h h' : Heap} {a : Addr} {l : List (Nat × Tok)} (x : SX L h a l) (k : ∀ o, h.get? a = some o → h'.get? a = some o) : SX L h' a l := by
  obtain ⟨o, ep, e, r⟩ := x
  exact ⟨o, ep, k o e, r⟩
end
end L2
set_option Elab.async false
set_option linter.all false
set_option maxRecDepth 100000
namespace L2
open PySem PySem.Spec PyProof.Rows
section
variable {prog : Program} {w : World} {A : Around} {E : Value → Shared → Prop} {s : Shared} {S : Addr} {o : Obj} {ep : Nat} {l : List (Nat × Tok)}
end
end L2
set_option Elab.async false
set_option linter.all false
set_option maxRecDepth 100000
namespace L2
open PySem PySem.Spec PyProof.Rows
section
variable {prog : Program} {w : World} {A : Around} {E : Value → Shared → Prop} {s : Shared} {S : Addr} {o : Obj} {ep : Nat} {l : List (Nat × Tok)}
end
end L2
set_option Elab.async false
set_option linter.all false
set_option maxRecDepth 100000
namespace L2
open PySem PySem.Spec PyProof.Rows
def SetO (w : World) (p : Addr) (a b : Nat) : HO := .ext fun h => ∃ t u, SX (Led w) h p (two a b t u)
section
variable {X : Cx}
end
end L2
set_option Elab.async false
set_option linter.all false
set_option maxRecDepth 100000
namespace L2
open PySem PySem.Spec PyProof.Rows

structure Sub (prog : Program) (w : World) (i l : Addr) (n : Nat) (P : Nat → Value → Prop) (st : Nat → Heap → Prop) : Prop where
  keep : ∀ k h h', st k h → (∀ b, b = i ∨ b = l → ∀ o, h.get? b = some o → h'.get? b = some o) → st k h'
  obj : ∀ k h, st k h → (∃ o, h.get? i = some o ∧ ∀ v, o.data ≠ .cell v) ∧ ∃ o, h.get? l = some o
  item : ∀ (A : Around) k (s : Shared) (Q : Value → Shared → Prop) (E : Value → Shared → Prop), k < n → st k s.heap → (∀ v h', P k v → st (k + 1) h' → Heap.SameBut i s.heap h' → Q v { s with heap := h' }) → wpAny (model prog w) A (Builtin.SmallTypes.nextOf (.ref i)) Q E s
  done : ∀ (A : Around) (s : Shared) (Q : Value → Shared → Prop) (E : Value → Shared → Prop), A.handled = none → st n s.heap → (∀ h' e, Heap.ExtBut i s.heap h' → (∃ o, h'.get? e = some o ∧ o.cls = .type "StopIteration") → E (.ref e) { s with heap := h' }) →
    wpAny (model prog w) A (Builtin.SmallTypes.nextOf (.ref i)) Q E s
theorem sub_list (prog : Program) (w : World) (i l : Addr) (items : Array Value) (hne : l ≠ i) : Sub prog w i l items.size (fun k v => items[k]? = some v) (fun k h => h.IsListIter i l k ∧ h.IsList l items) where
  keep := fun k h h' st kp => ⟨st.1.at fun o e => kp i (.inl rfl) o e, st.2.at fun o e => kp l (.inr rfl) o e⟩
  obj := fun k h st => by
    obtain ⟨⟨o, e, _, d⟩, ⟨o2, e2, _⟩⟩ := st
    exact ⟨⟨o, e, fun v z => by rw [d] at z; cases z⟩, o2, e2⟩
  item := fun A k s Q E hk st hQ => wpAny_nextOf_list_item st.1 st.2 (Array.getElem?_eq_getElem hk) fun h' a b => hQ _ h' (Array.getElem?_eq_getElem hk) ⟨a, st.2.at fun o e => b.extBut l o hne e⟩ b
  done := fun A s Q E hh st hE => wpAny_nextOf_list_end hh st.1 st.2 (Array.getElem?_eq_none (Nat.le_refl _)) hE
theorem nextOf_tuple_item {prog : Program} {w : World} {A : Around} {E : Value → Shared → Prop} {s : Shared} {it t : Addr} {i : Nat} {items : Array Value} {x : Value} {Q : Value → Shared → Prop} (hit : s.heap.IsTupleIter it t i) (ht : s.heap.IsTuple t items) (hx : items[i]? = some x)
    (hQ : ∀ h', h'.IsTupleIter it t (i + 1) → Heap.SameBut it s.heap h' → Q x { s with heap := h' }) : wpAny (model prog w) A (Builtin.SmallTypes.nextOf (.ref it)) Q E s := by
  obtain ⟨o, ho, hc, hd⟩ := id hit
  obtain ⟨ol, hol, _, nl, hdl⟩ := ht
  have hT := hit.typeIs
  unfold Builtin.SmallTypes.nextOf
  refine wpAny_bind (wpAny_callSpecial?_slot (name := Str.ofString "__next__") hT PySem.F.slot_tuple_iterator_next (wpAny_call_entry PySem.F.slot_tuple_iterator_next hT PySem.F.entry_tuple_iterator_next ?_ (PySem.F.args_tuple_iterator_next_1 _)))
  refine wpAny_bind (m := field (.ref it) 0) (wpAny_field ho hd (x := .ref t) rfl ?_)
  have hno : ¬ ((Value.ref t == Value.none) = true) := Bool.false_ne_true
  show wpAny _ _ (if (Value.ref t == Value.none) = true then _ else _) _ _ s
  rw [if_neg hno]
  refine wpAny_bind (m := field (.ref it) 1) (wpAny_field ho hd (x := .int i 0) rfl ?_)
  refine wpAny_bind (m := seqItems? (.ref t)) (wpAny_seqItems hol hdl ?_)
  simp only [Int.toNat_natCast, hx]
  refine wpAny_bind (wpAny_setField ho hd (by simp) (wpAny_pure ⟨x, rfl, wpAny_pure (hQ _ ?_ (Heap.SameBut.update ..))⟩))
  refine ⟨_, Heap.get?_update_self _ ho (Obj.isFreed_of_fields (Obj.data_mapFields hd _)), (Obj.cls_mapFields ..).trans hc, ?_⟩
  rw [Obj.data_mapFields hd]
  simp [rawInt]
theorem nextOf_tuple_end {prog : Program} {w : World} {A : Around} {E : Value → Shared → Prop} {s : Shared} {it t : Addr} {i : Nat} {items : Array Value} {Q : Value → Shared → Prop} (hh : A.handled = none) (hit : s.heap.IsTupleIter it t i) (ht : s.heap.IsTuple t items) (hx : items[i]? = none)
    (hE : ∀ h' e, Heap.ExtBut it s.heap h' → (∃ o, h'.get? e = some o ∧ o.cls = .type "StopIteration") → E (.ref e) { s with heap := h' }) : wpAny (model prog w) A (Builtin.SmallTypes.nextOf (.ref it)) Q E s := by
  obtain ⟨o, ho, hc, hd⟩ := id hit
  obtain ⟨ol, hol, _, nl, hdl⟩ := ht
  have hT := hit.typeIs
  unfold Builtin.SmallTypes.nextOf
  refine wpAny_bind (wpAny_callSpecial?_slot (name := Str.ofString "__next__") hT PySem.F.slot_tuple_iterator_next (wpAny_call_entry PySem.F.slot_tuple_iterator_next hT PySem.F.entry_tuple_iterator_next ?_ (PySem.F.args_tuple_iterator_next_1 _)))
  refine wpAny_bind (m := field (.ref it) 0) (wpAny_field ho hd (x := .ref t) rfl ?_)
  have hno : ¬ ((Value.ref t == Value.none) = true) := Bool.false_ne_true
  show wpAny _ _ (if (Value.ref t == Value.none) = true then _ else _) _ _ s
  rw [if_neg hno]
  refine wpAny_bind (m := field (.ref it) 1) (wpAny_field ho hd (x := .int i 0) rfl ?_)
  refine wpAny_bind (m := seqItems? (.ref t)) (wpAny_seqItems hol hdl ?_)
  simp only [Int.toNat_natCast, hx]
  refine wpAny_bind (wpAny_rule (wpAny_bind (wpAny_setField ho hd (by simp) ?_)))
  refine wpAny_bind (m := newExc (.type "StopIteration") []) ?_
  simp only [newExc, newTuple]
  refine wpAny_bind (wpAny_newObj_type ?_ (by size_fits))
  refine wpAny_bind (m := firstArgMember _ _) (wpAny_of_eq (a := Value.none) (by first | rfl | (simp only [firstArgMember]; rfl)) ?_)
  refine wpAny_newObj_type ?_ (by size_fits)
  simp only [raiseNew]
  refine wpAny_bind (wpAny_handled ?_)
  first | rw [show A.in1.handled = none from hh] | rw [hh]
  refine wpAny_bind (wpAny_pure (wpAny_throw ?_))
  exact hE _ _ (((Heap.SameBut.update ..).extBut.push _).push _) ⟨_, Heap.get?_push_size _ rfl, rfl⟩
theorem sub_tuple (prog : Program) (w : World) (i l : Addr) (items : Array Value) (hne : l ≠ i) : Sub prog w i l items.size (fun k v => items[k]? = some v) (fun k h => h.IsTupleIter i l k ∧ h.IsTuple l items) where
  keep := fun k h h' st kp => ⟨st.1.at fun o e => kp i (.inl rfl) o e, by obtain ⟨o, e, r⟩ := st.2; exact ⟨o, kp l (.inr rfl) o e, r⟩⟩
  obj := fun k h st => by
    obtain ⟨⟨o, e, _, d⟩, ⟨o2, e2, _⟩⟩ := st
    exact ⟨⟨o, e, fun v z => by rw [d] at z; cases z⟩, o2, e2⟩
  item := fun A k s Q E hk st hQ => nextOf_tuple_item st.1 st.2 (Array.getElem?_eq_getElem hk) fun h' a b => hQ _ h' (Array.getElem?_eq_getElem hk) ⟨a, by obtain ⟨o, e, r⟩ := st.2; exact ⟨o, b.extBut l o hne e, r⟩⟩ b
  done := fun A s Q E hh st hE => nextOf_tuple_end hh st.1 st.2 (Array.getElem?_eq_none (Nat.le_refl _)) hE

section
variable {prog : Program} {w : World} {A : Around} {E : Value → Shared → Prop} {s : Shared} {z TI TO i1 i2 l1 l2 : Addr} {n1 n2 : Nat} {P1 P2 : Nat → Value → Prop} {st1 st2 : Nat → Heap → Prop}
theorem zipItem {k : Nat} {a b : Value} {Q : Value → Shared → Prop} (D : ZipApart z TI TO i1 i2 l1 l2) (S1 : Sub prog w i1 l1 n1 P1 st1) (S2 : Sub prog w i2 l2 n2 P2 st2)
    (hz : IsZip s.heap z TI TO .none) (hTI : IsPair s.heap TI (.ref i1) (.ref i2)) (hTO : IsPair s.heap TO a b) (h1 : st1 k s.heap) (h2 : st2 k s.heap) (k1 : k < n1) (k2 : k < n2)
    (hQ : ∀ h' x y, P1 k x → P2 k y → IsZip h' z TI TO (rawInt s.heap.objs.size) → IsPair h' TO x y → st1 (k + 1) h' → st2 (k + 1) h' → IsPair h' s.heap.objs.size x y →
      (∀ c o, c ≠ z → c ≠ TO → c ≠ i1 → c ≠ i2 → s.heap.get? c = some o → h'.get? c = some o) → Q (.ref s.heap.objs.size) { s with heap := h' }) :
    wpAny (model prog w) A (Builtin.«zip.__next__» ⟨[.ref z], []⟩) (fun fin s' => ∃ v, fin = .done (.ret v) ∧ Q v s') E s := by
  refine wpAny_bind (m := field (.ref z) 2) (wpAny_field hz rfl (x := .bool false) rfl ?_)
  refine wpAny_bind (m := field (.ref z) 3) (wpAny_field hz rfl (x := .ref TI) rfl ?_)
  refine wpAny_bind (wpAny_seqItems hTI rfl ?_)
  refine wpAny_bind (m := Builtin.SmallTypes.ownedTupleIsFree (.ref z)) ?_
  unfold Builtin.SmallTypes.ownedTupleIsFree
  refine wpAny_bind (wpAny_field hz rfl (x := .none) rfl (wpAny_pure ?_))
  simp only [if_true]
  refine wpAny_bind (wpAny_rule ?_)
  refine wpAny_bind (wpAny_field hz rfl (x := .ref TO) rfl ?_)
  refine wpAny_bind (wpAny_setField_rec hz (by simp) fun g1 hz1 b1 => ?_)
  have hz1' : IsZip g1 z TI TO .ellipsis := hz1
  refine wpAny_bind ?_
  simp only [List.zipIdx_cons, List.zipIdx_nil, List.forIn_cons, List.forIn_nil]
  -- the first one
  have s1 : st1 k g1 := S1.keep _ _ _ h1 fun c hc o e => b1.extBut c o (by rcases hc with r | r <;> rw [r]; exact D.i1z; exact D.l1z) e
  refine wpAny_bind (wpAny_bind (wpAny_onRaise ?_))
  refine wpAny_bind (m := Builtin.SmallTypes.nextOf (.ref i1)) (S1.item _ k _ _ _ k1 s1 fun x g2 px t1 b2 => wpAny_pure ?_)
  have o2 : IsPair g2 TO a b := b2.extBut _ _ D.TOi1 (b1.extBut _ _ D.TOz hTO)
  refine wpAny_bind (wpAny_seqItems o2 rfl ?_)
  refine wpAny_bind (wpAny_updateSeq_pair o2 fun g3 o3 b3 => ?_)
  have o3' : IsPair g3 TO x b := o3
  refine wpAny_bind (wpAny_letGo (wpAny_pure ?_))
  -- the second one
  have s2 : st2 k g3 := S2.keep _ _ _ h2 fun c hc o e => by
    rcases hc with r | r
    · rw [r] at e ⊢; exact b3.extBut _ _ D.TOi2.symm (b2.extBut _ _ D.i12.symm (b1.extBut _ _ D.i2z e))
    · rw [r] at e ⊢; exact b3.extBut _ _ D.l2TO (b2.extBut _ _ D.l2i1 (b1.extBut _ _ D.l2z e))
  refine wpAny_bind (wpAny_bind (wpAny_onRaise ?_))
  refine wpAny_bind (m := Builtin.SmallTypes.nextOf (.ref i2)) (S2.item _ k _ _ _ k2 s2 fun y g4 py t2 b4 => wpAny_pure ?_)
  have o4 : IsPair g4 TO x b := b4.extBut _ _ D.TOi2 o3'
  refine wpAny_bind (wpAny_seqItems o4 rfl ?_)
  refine wpAny_bind (wpAny_updateSeq_pair o4 fun g5 o5 b5 => ?_)
  have o5' : IsPair g5 TO x y := o5
  refine wpAny_bind (wpAny_letGo (wpAny_pure (wpAny_pure ?_)))
  refine wpAny_bind (wpAny_seqItems o5' rfl ?_)
  refine wpAny_bind (wpAny_newTuple ?_)
  have sz : g5.objs.size = s.heap.objs.size := by rw [b5.1, b4.1, b3.1, b2.1, b1.1]
  have z5 : IsZip g5 z TI TO .ellipsis := b5.extBut _ _ D.TOz.symm (b4.extBut _ _ D.i2z.symm (b3.extBut _ _ D.TOz.symm (b2.extBut _ _ D.i1z.symm hz1')))
  have kp5 : ∀ c o, c ≠ z → c ≠ TO → c ≠ i1 → c ≠ i2 → s.heap.get? c = some o → g5.get? c = some o := fun c o c1 c2 c3 c4 e =>
    b5.extBut _ _ c2 (b4.extBut _ _ c4 (b3.extBut _ _ c2 (b2.extBut _ _ c3 (b1.extBut _ _ c1 e))))
  have t1' : st1 (k + 1) g5 := S1.keep _ _ _ t1 fun c hc o e => by
    rcases hc with r | r
    · rw [r] at e ⊢; exact b5.extBut _ _ D.TOi1.symm (b4.extBut _ _ D.i12 (b3.extBut _ _ D.TOi1.symm e))
    · rw [r] at e ⊢; exact b5.extBut _ _ D.l1TO (b4.extBut _ _ D.l1i2 (b3.extBut _ _ D.l1TO e))
  have t2' : st2 (k + 1) g5 := S2.keep _ _ _ t2 fun c hc o e => by
    rcases hc with r | r
    · rw [r] at e ⊢; exact b5.extBut _ _ D.TOi2.symm e
    · rw [r] at e ⊢; exact b5.extBut _ _ D.l2TO e
  have zlt : g5.objs.size ≠ z := Nat.ne_of_gt (Heap.lt_size z5)
  refine wpAny_bind (m := Builtin.SmallTypes.ownedTupleHandOut (.ref z) (.ref g5.objs.size)) ?_
  unfold Builtin.SmallTypes.ownedTupleHandOut
  have z6 : IsZip (g5.push { cls := .type "tuple", data := .seq #[x, y] }) z TI TO .ellipsis := Heap.get?_push_of_some _ z5
  refine wpAny_bind (wpAny_setField_rec z6 (by simp) fun g7 z7 b7 => ?_)
  have z7' : IsZip g7 z TI TO (rawInt g5.objs.size) := z7
  refine wpAny_setField_rec z7' (by simp) fun g8 z8 b8 => ?_
  have z8' : IsZip g8 z TI TO (rawInt g5.objs.size) := z8
  have up : ∀ c o, c ≠ z → g5.get? c = some o → g8.get? c = some o := fun c o c1 e => b8.extBut _ _ c1 (b7.extBut _ _ c1 (Heap.get?_push_of_some _ e))
  have T8 : IsPair g8 g5.objs.size x y := b8.extBut _ _ zlt (b7.extBut _ _ zlt (Heap.get?_push_size _ rfl))
  rw [sz] at z8' T8
  refine wpAny_pure ⟨_, rfl, ?_⟩
  show Q (.ref g5.objs.size) _
  rw [sz]
  refine hQ g8 x y px py z8' (up _ _ D.TOz o5') (S1.keep _ _ _ t1' fun c hc o e => up c o (by rcases hc with r | r <;> rw [r]; exact D.i1z; exact D.l1z) e) (S2.keep _ _ _ t2' fun c hc o e => up c o (by rcases hc with r | r <;> rw [r]; exact D.i2z; exact D.l2z) e) T8 fun c o c1 c2 c3 c4 e => up c o c1 (kp5 c o c1 c2 c3 c4 e)
theorem zipEnd {k : Nat} {a b : Value} {Q : Fin → Shared → Prop} (hh : A.handled = none) (D : ZipApart z TI TO i1 i2 l1 l2) (S1 : Sub prog w i1 l1 n1 P1 st1) (S2 : Sub prog w i2 l2 n2 P2 st2)
    (hz : IsZip s.heap z TI TO .none) (hTI : IsPair s.heap TI (.ref i1) (.ref i2)) (hTO : IsPair s.heap TO a b) (h1 : st1 k s.heap) (h2 : st2 k s.heap) (hend : k = n1 ∧ k ≤ n2 ∨ k = n2 ∧ k < n1)
    (hE : ∀ h' e, (∀ c o, c ≠ z → c ≠ TO → c ≠ i1 → c ≠ i2 → s.heap.get? c = some o → h'.get? c = some o) → (∃ o, h'.get? e = some o ∧ o.cls = .type "StopIteration") → E (.ref e) { s with heap := h' }) :
    wpAny (model prog w) A (Builtin.«zip.__next__» ⟨[.ref z], []⟩) Q E s := by
  refine wpAny_bind (m := field (.ref z) 2) (wpAny_field hz rfl (x := .bool false) rfl ?_)
  refine wpAny_bind (m := field (.ref z) 3) (wpAny_field hz rfl (x := .ref TI) rfl ?_)
  refine wpAny_bind (wpAny_seqItems hTI rfl ?_)
  refine wpAny_bind (m := Builtin.SmallTypes.ownedTupleIsFree (.ref z)) ?_
  unfold Builtin.SmallTypes.ownedTupleIsFree
  refine wpAny_bind (wpAny_field hz rfl (x := .none) rfl (wpAny_pure ?_))
  simp only [if_true]
  refine wpAny_bind (wpAny_rule ?_)
  refine wpAny_bind (wpAny_field hz rfl (x := .ref TO) rfl ?_)
  refine wpAny_bind (wpAny_setField_rec hz (by simp) fun g1 hz1 b1 => ?_)
  have hz1' : IsZip g1 z TI TO .ellipsis := hz1
  refine wpAny_bind ?_
  simp only [List.zipIdx_cons, List.zipIdx_nil, List.forIn_cons, List.forIn_nil]
  have s1 : st1 k g1 := S1.keep _ _ _ h1 fun c hc o e => b1.extBut c o (by rcases hc with r | r <;> rw [r]; exact D.i1z; exact D.l1z) e
  refine wpAny_bind (wpAny_bind (wpAny_onRaise ?_))
  have fin : ∀ (g : Heap) (e : Addr) (g0 : Heap), (∃ o, g.get? e = some o ∧ o.cls = .type "StopIteration") → IsZip g z TI TO .ellipsis → (∀ c o, c ≠ z → c ≠ TO → c ≠ i1 → c ≠ i2 → s.heap.get? c = some o → g.get? c = some o) →
      wpAny (model prog w) A (setField (.ref z) 0 .none) (fun _ s' => E (.ref e) s') E { s with heap := g } := fun g e g0 ⟨oe, hoe, hce⟩ hzz kp => by
    have hez : e ≠ z := fun q => by rw [q, hzz] at hoe; cases hoe; simp at hce
    exact wpAny_setField_rec hzz (by simp) fun g' _ b' => hE g' e (fun c o c1 c2 c3 c4 q => b'.extBut _ _ c1 (kp c o c1 c2 c3 c4 q)) ⟨oe, b'.extBut _ _ hez hoe, hce⟩
  rcases hend with ⟨e1, _⟩ | ⟨e2, k1⟩
  · rw [e1] at s1
    refine wpAny_bind (m := Builtin.SmallTypes.nextOf (.ref i1)) (S1.done _ _ _ _ hh s1 fun g2 e b2 he => ?_)
    exact fin g2 e g1 he (b2 _ _ D.i1z.symm hz1') fun c o c1 _ c3 _ q => b2 _ _ c3 (b1.extBut _ _ c1 q)
  · refine wpAny_bind (m := Builtin.SmallTypes.nextOf (.ref i1)) (S1.item _ k _ _ _ k1 s1 fun x g2 px t1 b2 => wpAny_pure ?_)
    have o2 : IsPair g2 TO a b := b2.extBut _ _ D.TOi1 (b1.extBut _ _ D.TOz hTO)
    refine wpAny_bind (wpAny_seqItems o2 rfl ?_)
    refine wpAny_bind (wpAny_updateSeq_pair o2 fun g3 o3 b3 => ?_)
    refine wpAny_bind (wpAny_letGo (wpAny_pure ?_))
    have s2 : st2 n2 g3 := by
      rw [← e2]
      exact S2.keep _ _ _ h2 fun c hc o e => by
        rcases hc with r | r
        · rw [r] at e ⊢; exact b3.extBut _ _ D.TOi2.symm (b2.extBut _ _ D.i12.symm (b1.extBut _ _ D.i2z e))
        · rw [r] at e ⊢; exact b3.extBut _ _ D.l2TO (b2.extBut _ _ D.l2i1 (b1.extBut _ _ D.l2z e))
    refine wpAny_bind (wpAny_bind (wpAny_onRaise ?_))
    refine wpAny_bind (m := Builtin.SmallTypes.nextOf (.ref i2)) (S2.done _ _ _ _ hh s2 fun g4 e b4 he => ?_)
    exact fin g4 e g3 he (b4 _ _ D.i2z.symm (b3.extBut _ _ D.TOz.symm (b2.extBut _ _ D.i1z.symm hz1'))) fun c o c1 c2 c3 c4 q => b4 _ _ c4 (b3.extBut _ _ c2 (b2.extBut _ _ c3 (b1.extBut _ _ c1 q)))
end
end L2
set_option Elab.async false
set_option linter.all false
set_option maxRecDepth 100000
namespace L2
open PySem PySem.Spec PyProof.Rows
inductive Sk where
  | l | t
def SqK (k : Sk) (K : PySem.W.Frag) (H : Hp) (a : Addr) (xs : List V) : Prop := match k with | .l => SqL K H a xs | .t => SqT K H a xs
def AtK (k : Sk) (h : Heap) (a : Addr) (its : Array Value) : Prop := match k with | .l => h.IsList a its | .t => h.IsTuple a its
def ItK (k : Sk) (h : Heap) (i a : Addr) (n : Nat) : Prop := match k with | .l => h.IsListIter i a n | .t => h.IsTupleIter i a n
def itK (k : Sk) (a : Addr) : Obj := match k with | .l => { cls := .type "list_iterator", data := .fields #[.ref a, .int 0 0] } | .t => { cls := .type "tuple_iterator", data := .fields #[.ref a, .int 0 0] }
theorem ItK.new (k : Sk) (h : Heap) (a : Addr) : ItK k (h.push (itK k a)) h.objs.size a 0 := by
  cases k
  · exact ⟨_, Heap.get?_push_size _ rfl, rfl, rfl⟩
  · exact ⟨_, Heap.get?_push_size _ rfl, rfl, rfl⟩
theorem ItK.obj {k : Sk} {h : Heap} {i a : Addr} {n : Nat} (x : ItK k h i a n) : ∃ o, h.get? i = some o ∧ ∀ v, o.data ≠ .cell v := by
  cases k
  · obtain ⟨o, e, _, d⟩ := x; exact ⟨o, e, fun v z => by rw [d] at z; cases z⟩
  · obtain ⟨o, e, _, d⟩ := x; exact ⟨o, e, fun v z => by rw [d] at z; cases z⟩
theorem ItK.at {k : Sk} {h h' : Heap} {i a : Addr} {n : Nat} (x : ItK k h i a n) (kp : ∀ o, h.get? i = some o → h'.get? i = some o) : ItK k h' i a n := by
  cases k
  · exact Heap.IsListIter.at x kp
  · exact Heap.IsTupleIter.at x kp
theorem AtK.at {k : Sk} {h h' : Heap} {a : Addr} {its : Array Value} (x : AtK k h a its) (kp : ∀ o, h.get? a = some o → h'.get? a = some o) : AtK k h' a its := by
  cases k
  · exact Heap.IsList.at x kp
  · obtain ⟨o, e, r⟩ := x; exact ⟨o, kp o e, r⟩
theorem subK (k : Sk) (prog : Program) (w : World) (i l : Addr) (items : Array Value) (hne : l ≠ i) : Sub prog w i l items.size (fun j v => items[j]? = some v) (fun j h => ItK k h i l j ∧ AtK k h l items) := by
  cases k
  · exact sub_list prog w i l items hne
  · exact sub_tuple prog w i l items hne
theorem iterK {prog : Program} {w : World} {A : Around} {E : Value → Shared → Prop} {s : Shared} {k : Sk} {a : Addr} {its : Array Value} {Q : Value → Shared → Prop} (h : AtK k s.heap a its) (hQ : Q (.ref s.heap.objs.size) { s with heap := s.heap.push (itK k a) }) : wpAny (model prog w) A (pyIter (.ref a)) Q E s := by
  cases k
  · exact wpAny_pyIter_list h hQ
  · exact wpAny_pyIter_tuple h hQ
section
variable {X : Cx} {pins : List (Addr × Obj)} {σ : St} {H : Hp} {s : Shared}
theorem Inv.seqK (I : Inv X pins σ H s) {k : Sk} {a : Addr} {xs : List V} (h : SqK k X.K H a xs) : ∃ its : List Value, Vals xs its ∧ AtK k s.heap a its.toArray := by
  cases k
  · obtain ⟨its, r, p, _⟩ := I.list h; exact ⟨its, r, p.isList⟩
  · obtain ⟨its, r, p, _⟩ := I.tuple h; exact ⟨its, r, p⟩
theorem Inv.seqK_inj (I : Inv X pins σ H s) {k : Sk} {a : Addr} {xs ys : List V} (h : SqK k X.K H a xs) (h' : SqK k X.K H a ys) : xs = ys := by
  cases k
  · exact I.list_inj h h'
  · exact I.tuple_inj h h'
theorem Inv.seq_ne (I : Inv X pins σ H s) {k : Sk} {a b : Addr} {xs : List V} (h : SqK k X.K H a xs) (f : FpOk X pins H b) : a ≠ b := by
  have rd : ∀ {u : HO}, Rd H a u → a ≠ b := fun {u} r z => by
    rcases r with r | ⟨o, r⟩ <;> (rw [z, f.1] at r; cases r)
  have kk : ∀ {o : Obj}, X.K.lookup a = some o → a ≠ b := fun {o} e z => by
    have e1 := I.ok.mod.kin a o e
    rcases f.2.2.2.1 with q | q
    · exact I.ok.noex a o e1 (z ▸ q)
    · exact Nat.lt_irrefl _ (Nat.lt_of_lt_of_le (Heap.lt_size (I.ok.bs a o e1).1) (z ▸ q))
  cases k
  · rcases h with h | ⟨o, _, _, e, _⟩
    · exact rd h
    · exact kk e
  · rcases h with h | ⟨o, _, _, e, _⟩
    · exact rd h
    · exact kk e
theorem Inv.turnedL {h' : Heap} {t' : Nat} (ch : List Addr) (I : Inv X pins σ H s) (k : ∀ b o, b ∉ ch → s.heap.get? b = some o → h'.get? b = some o) (f : ∀ b ∈ ch, FpOk X pins H b) : Inv X pins σ H { s with heap := h', toks := t' } := by
  have nit : ∀ b u, H b = some u → b ∉ ch := fun b u e z => by rw [(f b z).1] at e; cases e
  have nL : X.env.locals ∉ ch := fun z => (f _ z).2.1 rfl
  refine I.step (g' := s.gens) (d' := s.drawn) (ch := ch) (fun b hb => ⟨(f b hb).2.2.2.1, (f b hb).2.1, (f b hb).2.2.2.2.1, (f b hb).2.2.2.2.2⟩) (fun b o _ _ hc e _ => k b o hc e) (fun b o _ _ hc e _ => ⟨o.slots, k b o hc e⟩) (fun _ _ _ _ n => n)
    (fun b o hc e => ⟨o, k b o hc e⟩) (fun _ _ e => e) (fun _ _ _ e => e) (fun b ps e => ⟨#[], by rw [e]; simp⟩) (fun m hm => ?_) (fun b u e => ?_) I.bare
  · obtain ⟨o, es, ep, ho, r⟩ := hm
    exact ⟨o, es, ep, k _ o nL ho, r⟩
  · refine (I.hok b u e).stay (fun c v hc q => k c v ?_ q) (fun _ q => q) fun _ _ q => q
    rcases hc with z | z
    · rw [z]; exact nit b u e
    · exact nit c _ z
theorem Inv.trackO {D : Addr} {u : HO} (I : Inv X pins σ H s) (new : ObjOk X.prog X.w (upd H D u) s.heap D u) (hn : H D = none) (hL : D ≠ X.env.locals)
    (h1 : X.s₀.heap.objs.size ≤ D) (h2 : ∀ x c, X.env.cells.lookup x = some c → c ≠ D) (h3 : ∀ p ∈ X.pn ++ pins, p.1 ≠ D) : Inv X pins σ (upd H D u) s := by
  have ne : ∀ b v, H b = some v → b ≠ D := fun b v e z => by rw [z, hn] at e; cases e
  refine I.step (g' := s.gens) (d' := s.drawn) (t' := s.toks) (h' := s.heap) (ch := [D]) (fun b hb => ?_) (fun b o _ _ _ e _ => e) (fun b o _ _ _ e _ => ⟨o.slots, e⟩) (fun b o hc _ n => ?_) (fun b o _ e => ⟨o, e⟩)
    (fun b xs e => by rw [upd_ne (ne b _ e)]; exact e) (fun b o v e => by rw [upd_ne (ne b _ e)]; exact e) (fun b ps e => ⟨#[], by rw [upd_ne (ne b _ e), e]; simp⟩) (fun _ h => h) (fun b v e => ?_) I.bare
  · have e : b = D := by simpa using hb
    subst e
    exact ⟨.inr h1, hL, h2, h3⟩
  · rw [upd_ne (by simpa using hc)]; exact n
  · by_cases hb : b = D
    · subst hb
      rw [upd_same] at e; cases e
      exact new
    · rw [upd_ne hb] at e
      exact (I.hok b v e).stay (fun c v _ q => q) (fun c q => by rw [upd_ne (ne c _ q)]; exact q) fun c xs q => by rw [upd_ne (ne c _ q)]; exact q
end

def Itz (K : PySem.W.Frag) (k1 k2 : Sk) (a b : Addr) : It :=
  ⟨fun i H => ∃ xs ys x y, SqK k1 K H a xs ∧ SqK k2 K H b ys ∧ xs[i]? = some x ∧ ys[i]? = some y,
   fun i H v H' => ∃ p, H p = none ∧ v = .ref p ∧ ∀ xs ys, SqK k1 K H a xs → SqK k2 K H b ys → ∃ x y, xs[i]? = some x ∧ ys[i]? = some y ∧ H' = upd H p (.tup [x, y]),
   fun i H => ∃ xs ys, SqK k1 K H a xs ∧ SqK k2 K H b ys ∧ min xs.length ys.length = i⟩
theorem turn_zip {P : Program} {w : World} {K : PySem.W.Frag} {es : List Expr} {x1} {pos : Pos} (k1 k2 : Sk) (a b z TI TO i1 i2 : Addr) (D : ∀ l1 l2 : Addr, (∀ c ∈ [z, TI, TO, i1, i2], l1 ≠ c) → (∀ c ∈ [z, TI, TO, i1, i2], l2 ≠ c) → ZipApart z TI TO i1 i2 l1 l2) :
    Turn P w K (.Tuple es x1 pos) (Itz K k1 k2 a b) [z, TI, TO, i1, i2] z (fun i h => IsZip h z TI TO .none ∧ IsPair h TI (.ref i1) (.ref i2) ∧ (∃ x y, IsPair h TO x y) ∧ ItK k1 h i1 a i ∧ ItK k2 h i2 b i) where
  mem := by simp
  obj := fun i h st c hc => by
    obtain ⟨hz, hTI, ⟨x, y, hTO⟩, h1, h2⟩ := st
    simp only [List.mem_cons, List.not_mem_nil, or_false] at hc
    rcases hc with rfl | rfl | rfl | rfl | rfl
    · exact ⟨_, hz, fun v q => by cases q⟩
    · exact ⟨_, hTI, fun v q => by cases q⟩
    · exact ⟨_, hTO, fun v q => by cases q⟩
    · exact h1.obj
    · exact h2.obj
  keep := fun i h h' st k => by
    obtain ⟨hz, hTI, ⟨x, y, hTO⟩, h1, h2⟩ := st
    exact ⟨k z (by simp) _ hz, k TI (by simp) _ hTI, ⟨x, y, k TO (by simp) _ hTO⟩, h1.at fun o e => k i1 (by simp) o e, h2.at fun o e => k i2 (by simp) o e⟩
  item := by
    intro X hP hw hK hc i pins s σ H E I hf st hg
    subst hP hw hK
    obtain ⟨hz, hTI, ⟨x0, y0, hTO⟩, h1, h2⟩ := st
    obtain ⟨xs, ys, x, y, ha, hb, hx, hy⟩ := hg
    obtain ⟨its, rv, pa⟩ := I.seqK ha
    obtain ⟨jts, rw', pb⟩ := I.seqK hb
    obtain ⟨u, hu, ru⟩ := rv.get hx
    obtain ⟨v, hv, rv2⟩ := rw'.get hy
    have na : ∀ c ∈ [z, TI, TO, i1, i2], a ≠ c := fun c hc' => I.seq_ne ha (hf c hc')
    have nb : ∀ c ∈ [z, TI, TO, i1, i2], b ≠ c := fun c hc' => I.seq_ne hb (hf c hc')
    have DD := D a b na nb
    have hT : s.TypeIs (.ref z) "zip" := ⟨_, hz, rfl⟩
    have hi1 : i < its.toArray.size := by rw [List.size_toArray]; exact (List.getElem?_eq_some_iff.mp hu).1
    have hi2 : i < jts.toArray.size := by rw [List.size_toArray]; exact (List.getElem?_eq_some_iff.mp hv).1
    unfold pyNext
    refine wpAny_bind (wpAny_attempt (wpAny_callSpecial?_slot (name := Str.ofString "__next__") hT PySem.F.slot_zip_next (wpAny_call_entry PySem.F.slot_zip_next hT PySem.F.entry_zip_next
      (zipItem DD (subK k1 X.prog X.w i1 a its.toArray (na i1 (by simp))) (subK k2 X.prog X.w i2 b jts.toArray (nb i2 (by simp))) hz hTI hTO ⟨h1, pa⟩ ⟨h2, pb⟩ hi1 hi2 fun h' u' v' pu pv hz' hTO' s1 s2 hT' kp => wpAny_pure ?_) (PySem.F.args_zip_next_1 _))))
    have eu : u' = u := by
      have q : its[i]? = some u' := by simpa using pu
      rw [hu] at q
      exact (Option.some.inj q).symm
    have ev : v' = v := by
      have q : jts[i]? = some v' := by simpa using pv
      rw [hv] at q
      exact (Option.some.inj q).symm
    subst eu ev
    refine ⟨_, rfl, wpAny_letOwnedTupleGo_zip hz' fun h2 hz2 sb2 => ?_⟩
    have Tz : s.heap.objs.size ≠ z := Nat.ne_of_gt (Heap.lt_size hz)
    have hT2 : IsPair h2 s.heap.objs.size u' v' := sb2.extBut _ _ Tz hT'
    have hf0 := I.hok.fresh (Nat.le_refl s.heap.objs.size)
    have fz := I.fpOk (Nat.le_refl s.heap.objs.size) hf0
    have I2 : Inv X pins σ H { s with heap := h2 } := by
      refine I.turnedL (t' := s.toks) [z, TO, i1, i2] (fun c o hc' e => ?_) (fun c hc' => hf c ?_)
      · simp only [List.mem_cons, List.not_mem_nil, or_false, not_or] at hc'
        exact sb2.extBut _ _ hc'.1 (kp c o hc'.1 hc'.2.1 hc'.2.2.1 hc'.2.2.2 e)
      · simp only [List.mem_cons, List.not_mem_nil, or_false] at hc' ⊢
        rcases hc' with r | r | r | r
        · exact .inl r
        · exact .inr (.inr (.inl r))
        · exact .inr (.inr (.inr (.inl r)))
        · exact .inr (.inr (.inr (.inr r)))
    have I3 : Inv X pins σ (upd H s.heap.objs.size (.tup [x, y])) { s with heap := h2 } := by
      refine I2.trackO (show ObjOk X.prog X.w _ _ _ (.tup [x, y]) from ⟨by show 2 ≤ sizeLine; rw [sizeLine_eq]; decide, [u', v'], 0, .cons ru (.cons rv2 .nil), hT2⟩) hf0 fz.2.1 I.sz fz.2.2.2.2.1 fz.2.2.2.2.2
    refine ⟨.ref s.heap.objs.size, _, I3, rfl, ⟨s.heap.objs.size, hf0, rfl, fun xs' ys' ha' hb' => ?_⟩, ⟨hz2, sb2.extBut _ _ DD.TIz (kp _ _ DD.TIz DD.TITO DD.TIi1 DD.TIi2 hTI), ⟨_, _, sb2.extBut _ _ DD.TOz hTO'⟩, s1.1.at fun o e => sb2.extBut _ _ DD.i1z e, s2.1.at fun o e => sb2.extBut _ _ DD.i2z e⟩, fun c hc' => ?_⟩
    · rw [I.seqK_inj ha' ha, I.seqK_inj hb' hb]
      exact ⟨x, y, hx, hy, rfl⟩
    · have cl : c ≠ s.heap.objs.size := by
        obtain ⟨o, e⟩ : ∃ o, s.heap.get? c = some o := by
          simp only [List.mem_cons, List.not_mem_nil, or_false] at hc'
          rcases hc' with rfl | rfl | rfl | rfl | rfl
          · exact ⟨_, hz⟩
          · exact ⟨_, hTI⟩
          · exact ⟨_, hTO⟩
          · obtain ⟨o, e, _⟩ := h1.obj; exact ⟨o, e⟩
          · obtain ⟨o, e, _⟩ := h2.obj; exact ⟨o, e⟩
        exact Nat.ne_of_lt (Heap.lt_size e)
      rw [upd_ne cl]
      exact (hf c hc').1
  done := by
    intro X hP hw hK hc i pins s σ H E I hf st hg
    subst hP hw hK
    obtain ⟨hz, hTI, ⟨x0, y0, hTO⟩, h1, h2⟩ := st
    obtain ⟨xs, ys, ha, hb, hmin⟩ := hg
    obtain ⟨its, rv, pa⟩ := I.seqK ha
    obtain ⟨jts, rw', pb⟩ := I.seqK hb
    have la := rv.length
    have lb := rw'.length
    have na : ∀ c ∈ [z, TI, TO, i1, i2], a ≠ c := fun c hc' => I.seq_ne ha (hf c hc')
    have nb : ∀ c ∈ [z, TI, TO, i1, i2], b ≠ c := fun c hc' => I.seq_ne hb (hf c hc')
    have DD := D a b na nb
    have hT : s.TypeIs (.ref z) "zip" := ⟨_, hz, rfl⟩
    unfold pyNext
    refine wpAny_bind (wpAny_attempt (wpAny_callSpecial?_slot (name := Str.ofString "__next__") hT PySem.F.slot_zip_next (wpAny_call_entry PySem.F.slot_zip_next hT PySem.F.entry_zip_next
      (zipEnd (I.ok.hd hc) DD (subK k1 X.prog X.w i1 a its.toArray (na i1 (by simp))) (subK k2 X.prog X.w i2 b jts.toArray (nb i2 (by simp))) hz hTI hTO ⟨h1, pa⟩ ⟨h2, pb⟩ (by rw [List.size_toArray, List.size_toArray]; omega) fun h' e kp he => ?_) (PySem.F.args_zip_next_1 _))))
    obtain ⟨oe, hoe, hce⟩ := he
    refine wpAny_bind (wpAny_isInstance (T := "StopIteration") (b := true) ⟨oe, hoe, hce⟩ isSubtype_stop (wpAny_pure ⟨rfl, ?_⟩))
    refine I.turnedL (t' := s.toks) [z, TO, i1, i2] (fun c o hc' e => ?_) (fun c hc' => hf c ?_)
    · simp only [List.mem_cons, List.not_mem_nil, or_false, not_or] at hc'
      exact kp c o hc'.1 hc'.2.1 hc'.2.2.1 hc'.2.2.2 e
    · simp only [List.mem_cons, List.not_mem_nil, or_false] at hc' ⊢
      rcases hc' with r | r | r | r
      · exact .inl r
      · exact .inr (.inr (.inl r))
      · exact .inr (.inr (.inr (.inl r)))
      · exact .inr (.inr (.inr (.inr r)))
  self := fun _ _ _ _ _ st h => wpAny_pyIter_zip st.1 h

abbrev zh1 (k1 : Sk) (h : Heap) (a : Addr) : Heap := h.push (itK k1 a)
abbrev zh2 (k1 k2 : Sk) (h : Heap) (a b : Addr) : Heap := (zh1 k1 h a).push (itK k2 b)
abbrev zh3 (k1 k2 : Sk) (h : Heap) (a b : Addr) : Heap := (zh2 k1 k2 h a b).push { cls := .type "tuple", data := .seq #[.ref h.objs.size, .ref (zh1 k1 h a).objs.size] }
abbrev zh4 (k1 k2 : Sk) (h : Heap) (a b : Addr) : Heap := (zh3 k1 k2 h a b).push { cls := .type "tuple", data := .seq #[.none, .none] }
abbrev zh5 (k1 k2 : Sk) (h : Heap) (a b : Addr) : Heap := (zh4 k1 k2 h a b).push { cls := .type "zip", data := .fields #[.none, .bool false, .bool false, .ref (zh2 k1 k2 h a b).objs.size, .ref (zh3 k1 k2 h a b).objs.size] }
theorem zip_made (k1 k2 : Sk) (a b : Addr) (xs ys : Array Value) :
    Meets (Builtin.«zip.__new__» ⟨[.type "zip", .ref a, .ref b], []⟩) (fun _ R s => AtK k1 s.heap a xs ∧ AtK k2 s.heap b ys ∧ R (.ok (.ret (.ref (zh4 k1 k2 s.heap a b).objs.size))) { s with heap := zh5 k1 k2 s.heap a b }) :=
  .of_wp fun prog w A R s h => by
    obtain ⟨hp, g, d, tk, os⟩ := s
    obtain ⟨hl1, hl2, h⟩ := h
    have hsub := sub_zip
    have hA : AtK k1 (Shared.heap ⟨hp, g, d, tk, os⟩) a xs := hl1
    have hB : AtK k2 (Shared.heap ⟨hp.push (itK k1 a), g, d, tk, os⟩) b ys := AtK.at hl2 fun o e => Heap.get?_push_of_some _ e
    wp_walk using iterK hA, iterK hB
    exact ⟨_, rfl, h⟩
section
variable {X : Cx} {es : List Expr} {x1 : Nat} {tpos : Pos}
def iZip (K : PySem.W.Frag) (k1 k2 : Sk) (ta : TA) : TI := fun σ H R => ta σ H fun vs H1 => ∃ a b xs ys, vs = [.ref a, .ref b] ∧ SqK k1 K H1 a xs ∧ SqK k2 K H1 b ys ∧ R (Itz K k1 k2 a b) H1
theorem pi_zip (k1 k2 : Sk) {a b : Expr} {ta : TA} {p pos : Pos} (hg : Gl X "zip") (hm : X.mg "zip" = none) (ha : PA X [a, b] ta) (hs : starEach [a, b] X.env = [(false, eval a X.env), (false, eval b X.env)] := by rfl) (hs2 : starEach [b] X.env = [(false, eval b X.env)] := by rfl) :
    PI X (.Tuple es x1 tpos) (.Call (.Name "zip" p) [a, b] [] pos) (iZip X.K k1 k2 ta) := by
  intro pins s σ H R I h
  refine Call_ (ld_blt (u := .type "zip") I hg hm (by decide +kernel) (PyProof.Rows.callWith_type1 (thn (ha pos pins s σ H _ I h) fun us s1 hx9 => ?_) (by rw [hs, hs2]) (by rw [hs2]; rfl)))
  obtain ⟨vs, H1, I1, r1, q1⟩ := hx9
  obtain ⟨l1, l2, xs, ys, rfl, hA, hB, q⟩ := q1
  obtain ⟨u1, u2, rfl, r1', r2'⟩ := vals2 r1
  cases r1'
  cases r2'
  obtain ⟨its, rv, pa⟩ := I1.seqK hA
  obtain ⟨jts, rw', pb⟩ := I1.seqK hB
  refine callType_new PySem.F.called_zip (by decide) (PySem.F.typeCall_zip_2 _ _) (PySem.F.newCall_zip_2 _ _) (fun obj => PySem.F.args_object_init_3 obj _ _) PySem.F.entry_zip_new (zip_made k1 k2 l1 l2 its.toArray jts.toArray) ⟨pa, pb, ?_⟩
  have n1 : (zh1 k1 s1.heap l1).objs.size = s1.heap.objs.size + 1 := Heap.size_push ..
  have n2 : (zh2 k1 k2 s1.heap l1 l2).objs.size = s1.heap.objs.size + 2 := by rw [Heap.size_push, n1]
  have n3 : (zh3 k1 k2 s1.heap l1 l2).objs.size = s1.heap.objs.size + 3 := by rw [Heap.size_push, n2]
  have n4 : (zh4 k1 k2 s1.heap l1 l2).objs.size = s1.heap.objs.size + 4 := by rw [Heap.size_push, n3]
  have g5 : IsZip (zh5 k1 k2 s1.heap l1 l2) (zh4 k1 k2 s1.heap l1 l2).objs.size (zh2 k1 k2 s1.heap l1 l2).objs.size (zh3 k1 k2 s1.heap l1 l2).objs.size .none := Heap.get?_push_size _ rfl
  have g4 : IsPair (zh5 k1 k2 s1.heap l1 l2) (zh3 k1 k2 s1.heap l1 l2).objs.size .none .none := Heap.get?_push_of_some _ (Heap.get?_push_size _ rfl)
  have g3 : IsPair (zh5 k1 k2 s1.heap l1 l2) (zh2 k1 k2 s1.heap l1 l2).objs.size (.ref s1.heap.objs.size) (.ref (zh1 k1 s1.heap l1).objs.size) := Heap.get?_push_of_some _ (Heap.get?_push_of_some _ (Heap.get?_push_size _ rfl))
  have g2 : ItK k2 (zh5 k1 k2 s1.heap l1 l2) (zh1 k1 s1.heap l1).objs.size l2 0 := (ItK.new k2 (zh1 k1 s1.heap l1) l2).at fun o e => Heap.get?_push_of_some _ (Heap.get?_push_of_some _ (Heap.get?_push_of_some _ e))
  have g1 : ItK k1 (zh5 k1 k2 s1.heap l1 l2) s1.heap.objs.size l1 0 := (ItK.new k1 s1.heap l1).at fun o e => Heap.get?_push_of_some _ (Heap.get?_push_of_some _ (Heap.get?_push_of_some _ (Heap.get?_push_of_some _ e)))
  have kp : ∀ c o, s1.heap.get? c = some o → (zh5 k1 k2 s1.heap l1 l2).get? c = some o := fun c o e => Heap.get?_push_of_some _ (Heap.get?_push_of_some _ (Heap.get?_push_of_some _ (Heap.get?_push_of_some _ (Heap.get?_push_of_some _ e))))
  refine ⟨⟨_, g5, rfl⟩, wpAny_pyIter_zip (f0 := .none) g5 ?_⟩
  rw [n1, n2, n3, n4] at *
  have I2 : Inv X pins σ H1 { s1 with heap := zh5 k1 k2 s1.heap l1 l2 } := I1.kept (t' := s1.toks) kp
  refine ⟨s1.heap.objs.size + 4, [s1.heap.objs.size + 4, s1.heap.objs.size + 2, s1.heap.objs.size + 3, s1.heap.objs.size, s1.heap.objs.size + 1], _, _, H1, rfl, I2, turn_zip k1 k2 l1 l2 _ _ _ _ _ ?_, ⟨g5, g3, ⟨_, _, g4⟩, g1, g2⟩, fun c hc => ?_, q⟩
  · intro m1 m2 h1 h2
    have d : ∀ i j : Nat, i ≠ j → s1.heap.objs.size + i ≠ s1.heap.objs.size + j := fun i j h => by omega
    exact ⟨d 2 4 (by decide), d 3 4 (by decide), d 0 4 (by decide), d 1 4 (by decide), d 2 3 (by decide), d 2 0 (by decide), d 2 1 (by decide), d 3 0 (by decide), d 3 1 (by decide), d 0 1 (by decide),
      h1 _ (by simp), h1 _ (by simp), h1 _ (by simp), h1 _ (by simp), h2 _ (by simp), h2 _ (by simp), h2 _ (by simp), h2 _ (by simp)⟩
  · have hc' : s1.heap.objs.size ≤ c := by
      simp only [List.mem_cons, List.not_mem_nil, or_false] at hc
      rcases hc with r | r | r | r | r
      · rw [r]; exact Nat.le_add_right _ _
      · rw [r]; exact Nat.le_add_right _ _
      · rw [r]; exact Nat.le_add_right _ _
      · rw [r]; exact Nat.le_refl _
      · rw [r]; exact Nat.le_add_right _ _
    exact I1.fpOk hc' (I1.hok.fresh hc')
end
end L2
set_option Elab.async false
set_option linter.all false
set_option maxRecDepth 100000
namespace L2
open PySem PySem.Spec PyProof.Rows
open PySem.AutoSeq1 (wpAny_loadPart')
theorem tuple_add_nil (l b : Addr) (items items2 : Array Value) (n n2 : Nat) (dd dd2 : Option Addr) (sl sl2 : Array (Option Value)) (hc0 : items.isEmpty = true) :
    Meets (Builtin.«tuple.__add__» ⟨[.ref l, .ref b], []⟩) (fun _ R s => s.heap.get? l = some { cls := .type "tuple", dict := dd, data := .seq items n, slots := sl } ∧ s.heap.get? b = some { cls := .type "tuple", dict := dd2, data := .seq items2 n2, slots := sl2 } ∧ R (.ok (.ret (Value.ref b))) s) :=
  .of_wp fun prog w A R s h => by
    obtain ⟨hp, g, d, tk, os⟩ := s
    obtain ⟨hl, hb, h⟩ := h
    have f1 := AutoSeq1.idx_int
    have f2 := AutoSeq1.sub_tuple_tuple
    wp_walk using wpAny_loadPart' hl, wpAny_loadPart' hb
    exact ⟨_, rfl, h⟩
section
variable {X : Cx}
theorem op_cat2 : OpR X (binaryOp .Add) (fun x y H Q => ∃ a b xs ys, x = .ref a ∧ y = .ref b ∧ SqT X.K H a xs ∧ SqT X.K H b ys ∧ xs.length + ys.length ≤ sizeLine ∧ ∀ p H', Same H H' → SqT X.K H' p (xs ++ ys) → Q (.ref p) H') := by
  intro pins s σ H x y v u Q I rx ry h
  obtain ⟨a, b, xs, ys, rfl, rfl, ha, hb, hz, q⟩ := h
  by_cases hx : xs = []
  · subst hx
    cases rx
    cases ry
    obtain ⟨its, r1, ⟨⟨cls, dd, data, sl⟩, ho, hc, n, hd⟩, _⟩ := I.tuple ha
    obtain ⟨its2, r2, ⟨⟨cls2, dd2, data2, sl2⟩, ho2, hc2, n2, hd2⟩, _⟩ := I.tuple hb
    simp only at hc hd hc2 hd2
    subst hc hd hc2 hd2
    cases r1
    exact concat_meets ⟨_, ho, rfl⟩ ⟨_, ho2, rfl⟩ noFill_tuple_add seq_tuple_add PySem.F.slot_tuple_add PySem.F.entry_tuple_add (PySem.F.args_tuple_add_2 _ _)
      (tuple_add_nil a b _ _ n n2 dd dd2 sl sl2 rfl) ⟨ho, ho2, ⟨.ref b, H, I, rfl, q b H (Same.refl H) hb⟩⟩
  · refine op_catT pins s σ H _ _ v u Q I rx ry ⟨a, b, xs, ys, rfl, rfl, ha, hb, hx, hz, fun e => ?_, fun e p hp => ?_⟩
    · subst e
      exact q a H (Same.refl H) (by rw [List.append_nil]; exact ha)
    · exact q p _ (Same.new hp) (SqT.of upd_same)
theorem getItem_tuple_whole {prog : Program} {w : World} {A : Around} {E : Value → Shared → Prop} {s : Shared} {t sl : Addr} {items : Array Value} {vl vu : Value} {lo hi : Option Int} {Q : Value → Shared → Prop} (ht : IsTup s.heap t items) (hs : s.heap.IsSliceOf sl vl vu .none) (pl : IsPart vl lo) (pu : IsPart vu hi)
    (hw : HT.sIx items.size 0 lo = 0 ∧ HT.sIx items.size items.size hi = items.size) (h : Q (.ref t) s) : wpAny (model prog w) A (getItem (.ref t) (.ref sl)) Q E s := by
  obtain ⟨os, hos, hcs, hds⟩ := id hs
  have hTs : s.TypeIs (.ref sl) "slice" := ⟨os, hos, hcs⟩
  unfold getItem
  try with_reducible refine wpAny_holding ?_
  first | refine wpAny_bind (wpAny_pure ?_) | skip
  refine wpAny_bind (wpAny_sequenceKey ht.typeIs (by decide) ?_)
  refine wpAny_bind (wpAny_callSpecial?_slot (name := Str.ofString "__getitem__") ht.typeIs PyProof.Rows.slot_tuple_getitem
    (wpAny_call_entry PyProof.Rows.slot_tuple_getitem ht.typeIs entry_tuple_getitem ?_ (args_tuple_getitem _ _)))
  refine wpAny_bind (m := Builtin.Tuple.tupleItemsOf (.ref t)) (tupleItemsOf_ ht ?_)
  refine wpAny_bind (wpAny_typeOf hTs ?_)
  rw [if_pos (by decide)]
  refine wpAny_bind (HT.sliceApplied_gen hs pl pu ?_)
  have hyes : (((HT.sIx items.size 0 lo : Nat) : Int) == 0 && (1 : Int) == 1 && (HT.sIx items.size items.size hi - HT.sIx items.size 0 lo) == items.size) = true := by
    rw [hw.1, hw.2]; simp
  show wpAny _ _ (if (((HT.sIx items.size 0 lo : Nat) : Int) == 0 && (1 : Int) == 1 && (HT.sIx items.size items.size hi - HT.sIx items.size 0 lo) == items.size) = true then _ else _) _ _ s
  rw [if_pos hyes]
  unfold Builtin.Tuple.tupleIsExact
  refine wpAny_bind (wpAny_bind (wpAny_typeOf ht.typeIs (wpAny_pure ?_)))
  refine wpAny_ite_split (fun _ => wpAny_bind (wpAny_rule (wpAny_pure ⟨_, rfl, wpAny_pure h⟩))) (fun hab => absurd (by rfl) hab)
theorem cutV_from (xs : List V) (k : Nat) : cutV xs (some (k : Int)) none = xs.drop k := by
  unfold cutV
  rw [HT.sIx_none, HT.sIx_nat]
  by_cases h : k ≤ xs.length
  · rw [Nat.min_eq_left h, List.take_of_length_le (by rw [List.length_drop]; exact Nat.le_refl _)]
  · rw [Nat.min_eq_right (by omega), List.drop_of_length_le (Nat.le_refl _), List.drop_of_length_le (by omega), List.take_nil]
end
end L2
set_option Elab.async false
set_option linter.all false
set_option maxRecDepth 100000
namespace L2
open PySem PySem.Spec PyProof.Rows
def ixCheck (N frn : List Str) (fr : List Nat) : Bool := frn.length == fr.length && (frn.zip fr).all fun y => N[y.2]? == some y.1
theorem compOk_of {X : Cx} {scope : Scope} {own frn : List Str} {fr : List Nat} (sc : Scope) (N : List Str) (h1 : X.env.scope = sc) (h2 : X.N = N) (h : (compCheck sc scope own frn && ixCheck N frn fr) = true) : CompOk X scope own fr frn := by
  rw [Bool.and_eq_true] at h
  obtain ⟨ha, hb⟩ := h
  unfold ixCheck at hb
  simp only [Bool.and_eq_true, beq_iff_eq, List.all_eq_true] at hb
  refine ⟨by rw [h1]; exact ha, fun k x hk => ?_, hb.1.symm⟩
  have hlt : k < fr.length := by rw [← hb.1]; exact (List.getElem?_eq_some_iff.mp hk).1
  refine ⟨fr[k], List.getElem?_eq_getElem hlt, ?_⟩
  have hm : (x, fr[k]) ∈ frn.zip fr := by
    refine List.mem_of_getElem? (i := k) ?_
    rw [List.getElem?_zip_eq_some]
    exact ⟨hk, List.getElem?_eq_getElem hlt⟩
  rw [h2]
  exact hb.2 _ hm
section
variable {J : It} {own : Nat} {fr : List Nat} {g : TG} {tt : TT} {te : TE} {σ : St} {H : Hp} {Q : Hp → List V → Prop}
theorem comp_it (n : Nat) (hn : n ≤ sizeLine) (SH : St → Prop) (Pv : Nat → List V → Hp → Prop) (hσ : SH (blk own fr σ)) (h0 : Pv 0 [] H) (hlen : ∀ i ys H, Pv i ys H → ys.length ≤ i)
    (hstop : ∀ ys H, Pv n ys H → J.stop n H) (hgo : ∀ i ys H, i < n → Pv i ys H → J.go i H)
    (hs : ∀ i ys σ x H H', i < n → SH σ → Pv i ys H → J.yld i H x H' → ys.length < sizeLine → g x σ H' fun σ2 H2 => tt σ2 H2 fun b H3 => if b = true then te σ2 H3 fun y H4 => ys.length < sizeLine ∧ SH σ2 ∧ Pv (i + 1) (ys ++ [y]) H4 else SH σ2 ∧ Pv (i + 1) ys H3)
    (hd : ∀ ys H, Pv n ys H → Q H ys) :
    ∃ W : Nat → Nat → List V → St → Hp → Prop, (∃ m, W 0 m [] (blk own fr σ) H) ∧ ∀ i m ys σ' H, W i m ys σ' H →
      (J.stop i H ∧ Q H ys) ∨
      (J.go i H ∧ ∃ N : List V → St → Hp → Prop, (∀ ys' σ2 H2, N ys' σ2 H2 → ∃ m', m' < m ∧ W (i + 1) m' ys' σ2 H2) ∧
        ∀ x H', J.yld i H x H' → g x σ' H' fun σ2 H2 => tt σ2 H2 fun b H3 => if b = true then te σ2 H3 fun y H4 => ys.length < sizeLine ∧ N (ys ++ [y]) σ2 H4 else N ys σ2 H3) := by
  refine ⟨fun i m ys σ' H => m = n - i ∧ i ≤ n ∧ SH σ' ∧ Pv i ys H, ⟨n, by simp, Nat.zero_le _, hσ, h0⟩, ?_⟩
  rintro i m ys σ' H ⟨rfl, hi, sh, p⟩
  by_cases hlt : i < n
  · refine .inr ⟨hgo i ys H hlt p, fun ys' σ2 H2 => SH σ2 ∧ Pv (i + 1) ys' H2, fun ys' σ2 H2 ⟨e, q⟩ => ⟨n - (i + 1), by omega, rfl, hlt, e, q⟩, fun x H' y => ?_⟩
    exact hs i ys σ' x H H' hlt sh p y (by have := hlen i ys H p; omega)
  · have e : i = n := by omega
    subst e
    exact .inl ⟨hstop ys H p, hd ys H p⟩
theorem comp_tup {K : PySem.W.Frag} {a : Addr} {xs : List V} (SH : St → Prop) (Pv : Nat → List V → Hp → Prop) (hn : xs.length ≤ sizeLine) (hσ : SH (blk own fr σ)) (h0 : Pv 0 [] H) (hlen : ∀ i ys H, Pv i ys H → ys.length ≤ i) (hl : ∀ i ys H, Pv i ys H → SqT K H a xs)
    (hs : ∀ i ys σ x H, xs[i]? = some x → SH σ → Pv i ys H → ys.length < sizeLine → g x σ H fun σ2 H2 => tt σ2 H2 fun b H3 => if b = true then te σ2 H3 fun y H4 => ys.length < sizeLine ∧ SH σ2 ∧ Pv (i + 1) (ys ++ [y]) H4 else SH σ2 ∧ Pv (i + 1) ys H3)
    (hd : ∀ ys H, Pv xs.length ys H → Q H ys) :
    ∃ W : Nat → Nat → List V → St → Hp → Prop, (∃ m, W 0 m [] (blk own fr σ) H) ∧ ∀ i m ys σ' H, W i m ys σ' H →
      ((Itt K a).stop i H ∧ Q H ys) ∨
      ((Itt K a).go i H ∧ ∃ N : List V → St → Hp → Prop, (∀ ys' σ2 H2, N ys' σ2 H2 → ∃ m', m' < m ∧ W (i + 1) m' ys' σ2 H2) ∧
        ∀ x H', (Itt K a).yld i H x H' → g x σ' H' fun σ2 H2 => tt σ2 H2 fun b H3 => if b = true then te σ2 H3 fun y H4 => ys.length < sizeLine ∧ N (ys ++ [y]) σ2 H4 else N ys σ2 H3) := by
  refine comp_it xs.length hn SH Pv hσ h0 hlen (fun ys H p => ⟨xs, hl _ _ _ p, Nat.le_refl _⟩) (fun i ys H hi p => ⟨xs, xs[i], hl _ _ _ p, List.getElem?_eq_getElem hi⟩) (fun i ys σ x H H' hi sh p y hz => ?_) hd
  obtain ⟨e, y⟩ := y
  subst e
  exact hs i ys σ x _ (y xs (hl _ _ _ p)) sh p hz
theorem comp_list {K : PySem.W.Frag} {a : Addr} {xs : List V} (SH : St → Prop) (Pv : Nat → List V → Hp → Prop) (hn : xs.length ≤ sizeLine) (hσ : SH (blk own fr σ)) (h0 : Pv 0 [] H) (hlen : ∀ i ys H, Pv i ys H → ys.length ≤ i) (hl : ∀ i ys H, Pv i ys H → SqL K H a xs)
    (hs : ∀ i ys σ x H, xs[i]? = some x → SH σ → Pv i ys H → ys.length < sizeLine → g x σ H fun σ2 H2 => tt σ2 H2 fun b H3 => if b = true then te σ2 H3 fun y H4 => ys.length < sizeLine ∧ SH σ2 ∧ Pv (i + 1) (ys ++ [y]) H4 else SH σ2 ∧ Pv (i + 1) ys H3)
    (hd : ∀ ys H, Pv xs.length ys H → Q H ys) :
    ∃ W : Nat → Nat → List V → St → Hp → Prop, (∃ m, W 0 m [] (blk own fr σ) H) ∧ ∀ i m ys σ' H, W i m ys σ' H →
      ((Itl K a).stop i H ∧ Q H ys) ∨
      ((Itl K a).go i H ∧ ∃ N : List V → St → Hp → Prop, (∀ ys' σ2 H2, N ys' σ2 H2 → ∃ m', m' < m ∧ W (i + 1) m' ys' σ2 H2) ∧
        ∀ x H', (Itl K a).yld i H x H' → g x σ' H' fun σ2 H2 => tt σ2 H2 fun b H3 => if b = true then te σ2 H3 fun y H4 => ys.length < sizeLine ∧ N (ys ++ [y]) σ2 H4 else N ys σ2 H3) := by
  refine comp_it xs.length hn SH Pv hσ h0 hlen (fun ys H p => ⟨xs, hl _ _ _ p, Nat.le_refl _⟩) (fun i ys H hi p => ⟨xs, xs[i], hl _ _ _ p, List.getElem?_eq_getElem hi⟩) (fun i ys σ x H H' hi sh p y hz => ?_) hd
  obtain ⟨e, y⟩ := y
  subst e
  exact hs i ys σ x _ (y xs (hl _ _ _ p)) sh p hz
theorem comp_range {lo : Int} {n : Nat} (SH : St → Prop) (Pv : Nat → List V → Hp → Prop) (hn : n ≤ sizeLine) (hσ : SH (blk own fr σ)) (h0 : Pv 0 [] H) (hlen : ∀ i ys H, Pv i ys H → ys.length ≤ i)
    (hs : ∀ i ys σ H, i < n → SH σ → Pv i ys H → ys.length < sizeLine → g (.int (lo + i)) σ H fun σ2 H2 => tt σ2 H2 fun b H3 => if b = true then te σ2 H3 fun y H4 => ys.length < sizeLine ∧ SH σ2 ∧ Pv (i + 1) (ys ++ [y]) H4 else SH σ2 ∧ Pv (i + 1) ys H3)
    (hd : ∀ ys H, Pv n ys H → Q H ys) :
    ∃ W : Nat → Nat → List V → St → Hp → Prop, (∃ m, W 0 m [] (blk own fr σ) H) ∧ ∀ i m ys σ' H, W i m ys σ' H →
      ((Itr lo n).stop i H ∧ Q H ys) ∨
      ((Itr lo n).go i H ∧ ∃ N : List V → St → Hp → Prop, (∀ ys' σ2 H2, N ys' σ2 H2 → ∃ m', m' < m ∧ W (i + 1) m' ys' σ2 H2) ∧
        ∀ x H', (Itr lo n).yld i H x H' → g x σ' H' fun σ2 H2 => tt σ2 H2 fun b H3 => if b = true then te σ2 H3 fun y H4 => ys.length < sizeLine ∧ N (ys ++ [y]) σ2 H4 else N ys σ2 H3) := by
  refine comp_it n hn SH Pv hσ h0 hlen (fun ys H p => Nat.le_refl _) (fun i ys H hi p => hi) (fun i ys σ x H H' hi sh p y hz => ?_) hd
  obtain ⟨e, y⟩ := y
  subst e y
  exact hs i ys σ _ hi sh p hz
end
end L2
set_option Elab.async false
set_option linter.all false
set_option maxRecDepth 100000
namespace L2
open PySem PySem.Spec PyProof.Rows
section
variable {X : Cx}
def CDivB (i j : Int) : Prop := 0 < j ∧ j < 1267650600228229401496703205376
theorem op_fdivB : OpR X (binaryOp .FloorDiv) (rI CDivB fun i j => .int (i / j)) := opI fun i j _ _ _ _ _ hc q => by
  have h1 : (0 : Int) < j := hc.1
  have h2 : j < 1267650600228229401496703205376 := hc.2
  refine floordiv_int (by omega) (by rw [Int.fdiv_eq_ediv_of_nonneg i (by omega)]; exact q) (.inl (PyProof.noPylong_of_log2 ?_))
  have h3 : j.natAbs.log2 < 100 := (Nat.log2_lt (by omega)).mpr (by omega)
  omega
theorem vals_of : ∀ {xs : List V} {us : List Value}, xs.length = us.length → (∀ (j : Nat) (x : V) (u : Value), xs[j]? = some x → us[j]? = some u → RelV x u) → Vals xs us
  | [], [], _, _ => .nil
  | [], _ :: _, h, _ => by cases h
  | _ :: _, [], h, _ => by cases h
  | x :: xs, u :: us, h, k => .cons (k 0 x u rfl rfl) (vals_of (by simpa using h) fun j y v hy hv => k (j + 1) y v hy hv)
theorem call_list_rng (hc : X.calm = true) : CallR X (.type "list") (fun xs H Q => ∃ (a : Addr) (n : Nat), xs = [.ref a] ∧ H a = some (.rng 0 n) ∧ n ≤ 1000 ∧ ∀ p, H p = none → Q (.ref p) (upd H p (.lst ((upto n).map V.int)))) := by
  intro pins s σ H xs us Q I r h
  obtain ⟨a, n, rfl, ha, hn, q⟩ := h
  obtain ⟨u, rfl, rx⟩ := vals1 r
  cases rx
  obtain ⟨t, u, v, e⟩ := I.hok a _ ha
  have hsz : Builtin.Range.rangeSize 0 (n : Int) 1 = (n : Int) := by rw [rangeSize_one]; split <;> omega
  have hsm : Builtin.Range.small 0 (n : Int) 1 = true := small_one (by omega) (by omega) (by omega) (by omega)
  refine call_list_range (I.ok.hd hc) e hsm hsz (Nat.le_trans hn (by decide)) fun h' tk acc' c' kp hl hi => ?_
  have hv : Vals ((upto n).map V.int) acc'.toList := by
    obtain ⟨h1, h2⟩ := hi
    refine vals_of (by unfold upto; simp [h1]) fun j x u hx hu => ?_
    have hj : j < n := by
      have := (List.getElem?_eq_some_iff.mp hu).1
      rw [Array.length_toList, h1] at this
      exact this
    obtain ⟨t, rfl⟩ := h2 j u (by rw [← Array.getElem?_toList]; exact hu)
    unfold upto at hx
    rw [List.getElem?_map, List.getElem?_map, List.getElem?_range hj] at hx
    have e : V.int (j : Int) = x := Option.some.inj hx
    rw [← e]
    exact ⟨t, by rw [Int.zero_add, Int.mul_one]⟩
  have hlen : ((upto n).map V.int).length ≤ sizeLine := by unfold upto; rw [List.length_map, List.length_map, List.length_range, sizeLine_eq]; omega
  exact ⟨.ref s.heap.objs.size, _, I.laid (t' := tk) kp (Nat.le_refl _) (show ObjOk X.prog X.w _ h' _ (.lst _) from ⟨hlen, acc'.toList, c', hv, hl⟩), rfl, q _ (I.hok.fresh (Nat.le_refl _))⟩
theorem sliceApplied_rev {prog : Program} {w : World} {A : Around} {E : Value → Shared → Prop} {s : Shared} {sl : Addr} {tk : Tok} {n : Nat} {Q : Int × Int × Nat → Shared → Prop} (hs : s.heap.IsSliceOf sl .none .none (.int (-1) tk))
    (h : Q ((n : Int) - 1, -1, n) s) : wpAny (model prog w) A (Builtin.Slice.sliceApplied (.ref sl) (pure (n : Int))) Q E s := by
  obtain ⟨os, hos, hcs, hds⟩ := id hs
  unfold Builtin.Slice.sliceApplied Builtin.Slice.sliceFields
  refine wpAny_bind (wpAny_bind (wpAny_field hos hds (x := .none) rfl (wpAny_bind (wpAny_field hos hds (x := .none) rfl (wpAny_bind (wpAny_field hos hds (x := .int (-1) tk) rfl (wpAny_pure ?_)))))))
  refine wpAny_bind (HT.slicePart_ (.int (-1) tk) ?_)
  show wpAny _ _ (if ((-1 : Int) == 0) = true then _ else _) _ _ s
  rw [if_neg (by decide)]
  refine wpAny_bind (HT.slicePart_ .none (wpAny_bind (HT.slicePart_ .none (wpAny_bind (wpAny_pure ?_)))))
  show wpAny _ _ (match Builtin.Slice.sliceAdjust none none (-1) (n : Int) with | (lo, hi) => pure (lo, (-1 : Int), Builtin.Slice.slicePlaces lo hi (-1))) _ _ s
  have e : Builtin.Slice.sliceAdjust none none (-1) (n : Int) = ((n : Int) - 1, -1) := by simp [Builtin.Slice.sliceAdjust]
  rw [e]
  have e2 : Builtin.Slice.slicePlaces ((n : Int) - 1) (-1) (-1) = n := by
    unfold Builtin.Slice.slicePlaces
    rw [if_neg (by decide)]
    by_cases h0 : n = 0
    · subst h0; decide
    · rw [if_pos (by omega)]
      have : ((n : Int) - 1 - -1 - 1) / (- -1) + 1 = n := by rw [show (- -1 : Int) = 1 from rfl, Int.ediv_one]; omega
      rw [this]; simp
  show wpAny _ _ (pure ((n : Int) - 1, (-1 : Int), Builtin.Slice.slicePlaces ((n : Int) - 1) (-1) (-1))) _ _ s
  rw [e2]
  exact wpAny_pure h
theorem fm_congr {α β : Type} {f g : α → Option β} : ∀ {l : List α}, (∀ x ∈ l, f x = g x) → l.filterMap f = l.filterMap g
  | [], _ => rfl
  | x :: r, h => by rw [List.filterMap_cons, List.filterMap_cons, h x (List.mem_cons_self ..), fm_congr fun y hy => h y (List.mem_cons_of_mem _ hy)]
theorem pick_rev (xs : Array Value) : ((List.range xs.size).filterMap fun (k : Nat) => xs[((xs.size : Int) - 1 + (k : Int) * (-1)).toNat]?).toArray = xs.toList.reverse.toArray := by
  have h := HT.pick_gen xs.toList.reverse.toArray 0 xs.size
  have e : (List.range xs.size).filterMap (fun (k : Nat) => xs[((xs.size : Int) - 1 + (k : Int) * (-1)).toNat]?) = (List.range xs.size).filterMap (fun (m : Nat) => xs.toList.reverse.toArray[(((0 : Nat) : Int) + (m : Int) * 1).toNat]?) := by
    refine fm_congr fun k hk => ?_
    have hk' := List.mem_range.mp hk
    have h1 : ((xs.size : Int) - 1 + (k : Int) * (-1)).toNat = xs.size - 1 - k := by omega
    have h2 : (((0 : Nat) : Int) + (k : Int) * 1).toNat = k := by omega
    rw [h1, h2]
    simp only [List.getElem?_toArray]
    rw [List.getElem?_reverse (by simpa using hk')]
    simp
  rw [e, h]
  congr 1
  rw [List.drop_zero, List.take_of_length_le (by simp)]
theorem getItem_tuple_rev {prog : Program} {w : World} {A : Around} {E : Value → Shared → Prop} {s : Shared} {t sl : Addr} {items : Array Value} {tk : Tok} {Q : Value → Shared → Prop} (ht : IsTup s.heap t items) (hs : s.heap.IsSliceOf sl .none .none (.int (-1) tk))
    (h : Q (.ref s.heap.objs.size) { s with heap := s.heap.push { cls := .type "tuple", data := .seq items.toList.reverse.toArray } }) (hsz : items.size ≤ sizeLine) : wpAny (model prog w) A (getItem (.ref t) (.ref sl)) Q E s := by
  have htake : sizeOk (.seq items.toList.reverse.toArray) := by
    show items.toList.reverse.toArray.size ≤ sizeLine
    rw [List.size_toArray, List.length_reverse, Array.length_toList]
    exact hsz
  obtain ⟨os, hos, hcs, hds⟩ := id hs
  have hTs : s.TypeIs (.ref sl) "slice" := ⟨os, hos, hcs⟩
  unfold getItem
  try with_reducible refine wpAny_holding ?_
  first | refine wpAny_bind (wpAny_pure ?_) | skip
  refine wpAny_bind (wpAny_sequenceKey ht.typeIs (by decide) ?_)
  refine wpAny_bind (wpAny_callSpecial?_slot (name := Str.ofString "__getitem__") ht.typeIs PyProof.Rows.slot_tuple_getitem
    (wpAny_call_entry PyProof.Rows.slot_tuple_getitem ht.typeIs entry_tuple_getitem ?_ (args_tuple_getitem _ _)))
  refine wpAny_bind (m := Builtin.Tuple.tupleItemsOf (.ref t)) (tupleItemsOf_ ht ?_)
  refine wpAny_bind (wpAny_typeOf hTs ?_)
  rw [if_pos (by decide)]
  refine wpAny_bind (sliceApplied_rev hs ?_)
  have hno : ¬ ((((items.size : Int) - 1) == 0 && (-1 : Int) == 1 && items.size == items.size) = true) := by simp
  show wpAny _ _ (if (((items.size : Int) - 1) == 0 && (-1 : Int) == 1 && items.size == items.size) = true then _ else _) _ _ s
  rw [if_neg hno, pick_rev]
  first
    | exact wpAny_bind (m := Builtin.Tuple.tupleExact _) (wpAny_newObj_type (wpAny_pure ⟨_, rfl, wpAny_pure h⟩) htake)
    | exact wpAny_bind (m := Builtin.Tuple.tupleExact _) (wpAny_newObj_type (wpAny_bind (wpAny_pure (wpAny_pure ⟨_, rfl, wpAny_pure h⟩))) htake)
    | exact wpAny_bind (wpAny_bind (m := Builtin.Tuple.tupleExact _) (wpAny_newObj_type (wpAny_pure (wpAny_pure ⟨_, rfl, wpAny_pure h⟩)) htake))
    | exact wpAny_bind (wpAny_bind (m := Builtin.Tuple.tupleExact _) (wpAny_newObj_type (wpAny_pure ⟨_, rfl, wpAny_pure h⟩) htake))
def tRev (K : PySem.W.Frag) (te ts : TE) : TE := fun σ H Q => te σ H fun x H1 => ts σ H1 fun y H2 => y = .int (-1) ∧ ∃ a xs, x = .ref a ∧ SqT K H2 a xs ∧ ∀ p, H2 p = none → Q (.ref p) (upd H2 p (.tup xs.reverse))
theorem pe_rev {e st : Expr} {te ts : TE} {pos p2 : Pos} (he : PE X e te) (hst : PE X st ts) : PE X (.Subscript e (.Slice none none (some st) p2) pos) (tRev X.K te ts) := by
  intro pins s σ H Q I h
  refine Subscript_ (thn (he pins s σ H _ I h) fun v s1 hx9 => ?_)
  obtain ⟨x, H1, I1, r1, q1⟩ := hx9
  refine wpAny_Slice ?_
  rw [evalPart_none]
  refine wpAny_pure ?_
  show wpAny _ _ (evalPart none X.env) _ _ s1
  rw [evalPart_none]
  refine wpAny_pure ?_
  show wpAny _ _ (evalPart (some st) X.env) _ _ s1
  rw [evalPart_some]
  refine thn (hst pins s1 σ H1 _ I1 q1) fun vst s3 hx9 => ?_
  obtain ⟨y, H3, I3, r3, q3⟩ := hx9
  obtain ⟨rfl, a, xs, rfl, hx, q⟩ := q3
  obtain ⟨tk, rfl⟩ := r3
  cases r1
  have I4 : Inv X pins σ H3 { s3 with heap := s3.heap.push { cls := .type "slice", data := .fields #[.none, .none, .int (-1) tk] } } := I3.kept (t' := s3.toks) fun b ob q => Heap.get?_push_of_some _ q
  obtain ⟨its, r, ht, hz⟩ := I4.tuple hx
  have hlen := r.length
  have hg : wpAny (model X.prog X.w) X.A (getItem (.ref a) (.ref s3.heap.objs.size)) (EP X pins σ Q) X.xe { s3 with heap := s3.heap.push { cls := .type "slice", data := .fields #[.none, .none, .int (-1) tk] } } := by
    refine getItem_tuple_rev ht (Heap.IsSliceOf.new ..) ?_ (by rw [List.size_toArray]; omega)
    refine ⟨.ref _, _, I4.laid (t' := s3.toks) (o := .tup xs.reverse) (fun b ob q => Heap.get?_push_of_some _ q) (Nat.le_refl _) ?_, rfl, q _ (I4.hok.fresh (Nat.le_refl _))⟩
    exact ⟨by rw [List.length_reverse]; exact hz, its.reverse, 0, r.reverse, Heap.get?_push_size _ rfl⟩
  show wpAny (model X.prog X.w) X.A (subscriptTail e (.Slice none none (some st) p2) (.ref a) (.ref s3.heap.objs.size)) (EP X pins σ Q) X.xe { s3 with heap := s3.heap.push { cls := .type "slice", data := .fields #[.none, .none, .int (-1) tk] } }
  exact tail_any (ops := [.ref a, .ref s3.heap.objs.size]) ht.typeIs PyProof.Rows.slot_tuple_getitem.lookup hg (by with_unfolding_all rfl)
end
end L2
set_option Elab.async false
set_option linter.all false
set_option maxRecDepth 100000
namespace L2
open PySem PySem.Spec PyProof.Rows
def Vw (S : List Addr) (H : Hp) : Hp := fun b => if b ∈ S then none else H b
theorem Vw.out {S : List Addr} {H : Hp} {b : Addr} (n : b ∉ S) : Vw S H b = H b := by unfold Vw; rw [if_neg n]
theorem Vw.sub {S : List Addr} {H : Hp} : Same (Vw S H) H := fun b o h => by
  by_cases z : b ∈ S
  · unfold Vw at h; rw [if_pos z] at h; cases h
  · rw [Vw.out z] at h; exact h
theorem Vw.keep {S : List Addr} {H H' : Hp} (e : ∀ b o, b ∉ S → H b = some o → H' b = some o) : Same (Vw S H) (Vw S H') := fun b o h => by
  by_cases z : b ∈ S
  · unfold Vw at h; rw [if_pos z] at h; cases h
  · rw [Vw.out z] at h ⊢; exact e b o z h
theorem Vw.same {S : List Addr} {H H' : Hp} (e : Same H H') : Same (Vw S H) (Vw S H') := Vw.keep fun b o _ h => e b o h
def Fx (S : List Addr) (H : Hp) : Prop := ∀ b ∈ S, ∃ xs, H b = some (.lst xs)
theorem Fx.same {S : List Addr} {H H' : Hp} (f : Fx S H) (e : Same H H') : Fx S H' := fun b hb => let ⟨xs, h⟩ := f b hb; ⟨xs, e b _ h⟩
theorem Fx.new {S : List Addr} {H : Hp} {p : Addr} (f : Fx S H) (h : H p = none) : p ∉ S := fun z => by
  obtain ⟨xs, q⟩ := f p z
  rw [q] at h; cases h
theorem Fx.nil {H : Hp} : Fx [] H := fun _ h => (List.not_mem_nil h).elim
section
variable {K : PySem.W.Frag} {S : List Addr} {H H' H0 : Hp}
theorem Fx.seqT {a : Addr} {xs : List V} (f : Fx S H) (h : SqT K H a xs) : SqT K (Vw S H) a xs := by
  rcases h with (h | ⟨o, h⟩) | h
  · exact .inl (.inl (by rw [Vw.out fun z => by obtain ⟨ys, q⟩ := f a z; rw [q] at h; cases h]; exact h))
  · exact .inl (.inr ⟨o, by rw [Vw.out fun z => by obtain ⟨ys, q⟩ := f a z; rw [q] at h; cases h]; exact h⟩)
  · exact .inr h
theorem Vw.at {p : Addr} {o : HO} (f : Fx S H) (h : H p = none) : Vw S (upd H p o) p = some o := by rw [Vw.out (f.new h)]; exact upd_same
def Dn (K : PySem.W.Frag) (S : List Addr) (H : Hp) (x : V) : Prop := ∃ d, Den K (Vw S H) d x
def DT (K : PySem.W.Frag) (S : List Addr) (n : Nat) (H : Hp) (x : V) : Prop := ∃ a xs, x = .ref a ∧ SqT K (Vw S H) a xs ∧ xs.length ≤ n ∧ ∀ y ∈ xs, Dn K S H y
def II (_ : Hp) (x : V) : Prop := ∃ i, x = .int i
class Mo (R : Hp → V → Prop) : Prop where
  mo : ∀ {H H' : Hp} {v : V}, Same H H' → R H v → R H' v
theorem Dn.keep {x : V} (h : Dn K S H x) (e : Same (Vw S H) (Vw S H')) : Dn K S H' x := let ⟨d, h⟩ := h; ⟨d, e.den _ _ h⟩
theorem Dn.same {x : V} (h : Dn K S H x) (e : Same H H') : Dn K S H' x := h.keep (Vw.same e)
theorem DT.keep {n : Nat} {x : V} (h : DT K S n H x) (e : Same (Vw S H) (Vw S H')) : DT K S n H' x := let ⟨a, xs, h1, h2, h3, h4⟩ := h; ⟨a, xs, h1, e.seqT h2, h3, fun y hy => (h4 y hy).keep e⟩
theorem DT.same {n : Nat} {x : V} (h : DT K S n H x) (e : Same H H') : DT K S n H' x := h.keep (Vw.same e)
instance : Mo (Dn K S) := ⟨fun e h => Dn.same h e⟩
instance {n : Nat} : Mo (DT K S n) := ⟨fun e h => DT.same h e⟩
instance : Mo II := ⟨fun _ h => h⟩
theorem dn_int (i : Int) : Dn K S H (.int i) := ⟨.int i, den_int.mpr rfl⟩
theorem II.dn {x : V} (h : II H x) : Dn K S H x := let ⟨i, h⟩ := h; h ▸ dn_int i
theorem dn_all : ∀ {xs : List V}, (∀ x ∈ xs, Dn K S H x) → ∃ ds, DenAll K (Vw S H) ds xs
  | [], _ => ⟨[], denAll_nil.mpr rfl⟩
  | x :: r, h => by
    obtain ⟨d, hd⟩ := h x (List.mem_cons_self ..)
    obtain ⟨ds, hds⟩ := dn_all (xs := r) fun y hy => h y (List.mem_cons_of_mem _ hy)
    exact ⟨d :: ds, denAll_cons.mpr ⟨x, r, rfl, hd, hds⟩⟩
theorem DT.dn {n : Nat} {x : V} (h : DT K S n H x) : Dn K S H x := by
  obtain ⟨a, xs, rfl, h2, _, h4⟩ := h
  obtain ⟨ds, hds⟩ := dn_all h4
  exact ⟨.tuple ds, den_tuple.mpr ⟨a, xs, rfl, h2, hds⟩⟩
theorem dn_ints {l : List Int} : ∀ x ∈ l.map V.int, Dn K S H x := fun x hx => by
  obtain ⟨i, _, rfl⟩ := List.mem_map.mp hx
  exact dn_int i
theorem DT.ints {a : Addr} {l : List Int} {n : Nat} (f : Fx S H) (h : SqT K H a (l.map V.int)) (hn : l.length ≤ n) : DT K S n H (.ref a) := ⟨a, _, rfl, f.seqT h, by rw [List.length_map]; exact hn, dn_ints⟩
def Al (H0 : Hp) (S : List Addr) (te : TE) (σ : St) (R : Hp → V → Prop) : Prop := ∀ H, Same H0 H → Fx S H → ∀ Q : VK, (∀ v H', Same H H' → R H' v → Q v H') → te σ H Q
variable {σ : St} {R R' : Hp → V → Prop} {te ta tb ts : TE} {t tr : TA} {tl th : TO}
theorem Al.mono (h : Al H0 S te σ R) (m : ∀ H v, R H v → R' H v) : Al H0 S te σ R' := fun H s f Q k => h H s f Q fun v H' s' r => k v H' s' (m H' v r)
theorem Al.i (h : Al H0 S te σ II) : Al H0 S te σ (Dn K S) := h.mono fun _ _ r => r.dn
theorem Al.d {n : Nat} (h : Al H0 S te σ (DT K S n)) : Al H0 S te σ (Dn K S) := h.mono fun _ _ r => r.dn
def rCat2 (K : PySem.W.Frag) : R2 := fun x y H Q => ∃ a b xs ys, x = .ref a ∧ y = .ref b ∧ SqT K H a xs ∧ SqT K H b ys ∧ xs.length + ys.length ≤ sizeLine ∧ ∀ p H', Same H H' → SqT K H' p (xs ++ ys) → Q (.ref p) H'
theorem op_cat2K {X : Cx} (hK : X.K = K) : OpR X (binaryOp .Add) (rCat2 K) := by subst hK; exact op_cat2
theorem cutV_mem {xs : List V} {lo hi : Option Int} {x : V} (h : x ∈ cutV xs lo hi) : x ∈ xs := List.mem_of_mem_drop (List.mem_of_mem_take h)
instance {a : Addr} {xs : List V} : Mo (fun H v => v = .ref a ∧ SqT K H a xs) := ⟨fun e h => ⟨h.1, e.seqT h.2⟩⟩
instance {x : V} : Mo (fun _ v => v = x) := ⟨fun _ h => h⟩
end
end L2
set_option Elab.async false
set_option linter.all false
set_option maxRecDepth 100000
namespace L2
open PySem PySem.Spec PyProof.Rows
open PySem.AutoSeq1 (wpAny_loadPart')
theorem nf {b : Bool} (h : b = false) : decide (b = true) = false := by rw [h]; rfl
theorem tuple_mul_some (l : Addr) (items : Array Value) (n : Nat) (dd : Option Addr) (sl : Array (Option Value)) (x : Int) (u : Tok) (h1 : 1 < x) (h2 : x ≤ 1000) (hne : items.isEmpty = false) (hz : items.size ≤ 1000) :
    Meets (Builtin.«tuple.__mul__» ⟨[.ref l, .int x u], []⟩) (fun _ R s => s.heap.get? l = some { cls := .type "tuple", dict := dd, data := .seq items n, slots := sl } ∧ R (.ok (.ret (Value.ref s.heap.objs.size))) { s with heap := s.heap.push { cls := Value.type "tuple", data := Data.seq (List.foldl (fun x1 x2 => x1 ++ x2) #[] (List.replicate x.toNat items)) }, toks := s.toks }) :=
  .of_wp fun prog w A R s h => by
    obtain ⟨hp, g, d, tk, os⟩ := s
    obtain ⟨hl, h⟩ := h
    have f1 := AutoSeq1.idx_int
    have f2 := AutoSeq1.sub_tuple_tuple
    wp_walk using wpAny_loadPart' hl
    refine wpAny_ite_false (nf (show (decide (x < -2 ^ 63) || decide (x ≥ 2 ^ 63)) = false from by rw [decide_eq_false (show ¬ x < -2 ^ 63 by omega), decide_eq_false (show ¬ x ≥ 2 ^ 63 by omega)]; rfl)) ?_
    wp_walk using wpAny_loadPart' hl
    refine wpAny_ite_false (nf (show (items.isEmpty || x == 1) = false from by rw [hne, beq_eq_false_iff_ne.mpr (show x ≠ 1 by omega)]; rfl)) ?_
    wp_walk using wpAny_loadPart' hl
    refine wpAny_ite_false (nf (show (decide (x ≤ 0) || items.isEmpty) = false from by rw [hne, decide_eq_false (show ¬ x ≤ 0 by omega)]; rfl)) ?_
    wp_walk using wpAny_loadPart' hl
    have hm : (items.size : Int) * x ≤ 1000 * 1000 := Int.mul_le_mul (by omega) h2 (by omega) (by omega)
    refine wpAny_ite_false (decide_eq_false (show ¬ (items.size : Int) * x > (2 ^ 63 - 1) / 8 by omega)) ?_
    wp_walk using wpAny_loadPart' hl
    refine wpAny_ite_false (nf (show decide ((items.size : Int) * x > (sizeLine : Int)) = false from decide_eq_false (by rw [sizeLine_eq]; omega))) ?_
    have hsz : ¬ (List.foldl (fun x1 x2 => x1 ++ x2) #[] (List.replicate x.toNat items)).size > sizeLine := by
      have e := foldl_rep items.toList x.toNat []
      rw [List.nil_append] at e
      have e2 : List.foldl (fun x1 x2 => x1 ++ x2) #[] (List.replicate x.toNat items) = (List.replicate x.toNat items.toList).flatten.toArray := e
      rw [e2, List.size_toArray, len_rep, Array.length_toList, sizeLine_eq]
      have : x.toNat * items.size ≤ 1000 * 1000 := Nat.mul_le_mul (by omega) hz
      omega
    wp_walk using wpAny_loadPart' hl
    exact ⟨_, rfl, h⟩
theorem tuple_mul_none (l : Addr) (items : Array Value) (n : Nat) (dd : Option Addr) (sl : Array (Option Value)) (x : Int) (u : Tok) (h1 : 1 < x) (h2 : x ≤ 1000) (hne : items.isEmpty = true) :
    Meets (Builtin.«tuple.__mul__» ⟨[.ref l, .int x u], []⟩) (fun _ R s => s.heap.get? l = some { cls := .type "tuple", dict := dd, data := .seq items n, slots := sl } ∧ R (.ok (.ret (Value.ref l))) s) :=
  .of_wp fun prog w A R s h => by
    obtain ⟨hp, g, d, tk, os⟩ := s
    obtain ⟨hl, h⟩ := h
    have f1 := AutoSeq1.idx_int
    have f2 := AutoSeq1.sub_tuple_tuple
    wp_walk using wpAny_loadPart' hl
    refine wpAny_ite_false (nf (show (decide (x < -2 ^ 63) || decide (x ≥ 2 ^ 63)) = false from by rw [decide_eq_false (show ¬ x < -2 ^ 63 by omega), decide_eq_false (show ¬ x ≥ 2 ^ 63 by omega)]; rfl)) ?_
    wp_walk using wpAny_loadPart' hl
    exact ⟨_, rfl, h⟩
theorem noFill_tuple_mul : fillsNumberSlot (.type "tuple") "mul" = pure false :=
  PySem.fillsNumberSlot_seq (id := "tuple.__mul__") (r := some (.builtin "tuple.__rmul__")) PySem.F.slot_tuple_mul.lookup (by decide +kernel) PySem.F.slot_tuple_rmul.lookup (by decide +kernel)
theorem repeat_tuple : seqRepeat? (.type "tuple") = pure (some (.builtin "tuple.__mul__")) := by
  unfold seqRepeat?
  rw [PySem.seqSlot_of (T := "tuple") (name := "__mul__") (id := "tuple.__mul__") PySem.F.slot_tuple_mul.lookup (by decide +kernel), PySem.seqSlot_of (T := "tuple") (name := "__rmul__") (id := "tuple.__rmul__") PySem.F.slot_tuple_rmul.lookup (by decide +kernel)]
  rfl
theorem int_rmul_tuple (a : Int) (t : Tok) (l : Addr) (items : Array Value) (n : Nat) (dd : Option Addr) (sl : Array (Option Value)) :
    Meets (Builtin.«int.__rmul__» ⟨[.int a t, .ref l], []⟩) (fun _ R s => s.heap.get? l = some { cls := .type "tuple", dict := dd, data := .seq items n, slots := sl } ∧ R (.ok (.ret Value.notImplemented)) s) :=
  .of_wp fun prog w A R s h => by
    obtain ⟨hp, g, d, tk, os⟩ := s
    obtain ⟨hl, h⟩ := h
    wp_walk using wpAny_loadPart' hl
    exact ⟨_, rfl, h⟩
def rRepT (K : PySem.W.Frag) : R2 := fun x y H Q => ∃ a k xs, x = .ref a ∧ y = .int k ∧ SqT K H a xs ∧ 1 < k ∧ k ≤ 1000 ∧ xs.length ≤ 1000 ∧ ∀ p H', Same H H' → SqT K H' p (List.replicate k.toNat xs).flatten → Q (.ref p) H'
theorem op_repT {X : Cx} {K : PySem.W.Frag} (hK : X.K = K) : OpR X (binaryOp .Mult) (rRepT K) := by
  subst hK
  intro pins s σ H x y v u Q I rx ry h
  obtain ⟨a, k, xs, rfl, rfl, ha, h1, h2, hz, q⟩ := h
  cases rx
  obtain ⟨t, rfl⟩ := ry
  obtain ⟨its, r, ⟨⟨cls, dd, data, sl⟩, ho, hc, n, hd⟩, hzz⟩ := I.tuple ha
  simp only at hc hd
  subst hc hd
  have hl := r.length
  refine wpAny_binaryOp_repeat_ref (T := "tuple") (U := "int") (by decide) ⟨_, ho, rfl⟩ (fun s' => typeIs_int s' k t) noFill_tuple_mul PySem.F.fills_int_mul PySem.F.slot_int_rmul repeat_tuple PySem.F.slot_int_index.lookup
    (call_meets PySem.F.slot_int_rmul (typeIs_int s k t) PySem.F.entry_int_rmul (PySem.F.args_int_rmul_2 _ _) (int_rmul_tuple k t a its.toArray n dd sl) ⟨ho, rfl, ⟨_, ho, rfl⟩, ?_⟩)
  by_cases hx : xs = []
  · subst hx
    cases r
    refine call_meets PySem.F.slot_tuple_mul ⟨_, ho, rfl⟩ PySem.F.entry_tuple_mul (PySem.F.args_tuple_mul_2 _ _) (tuple_mul_none a _ n dd sl k t h1 h2 rfl) ⟨ho, ?_⟩
    exact ⟨.ref a, H, I, rfl, q a H (Same.refl H) (by rw [List.flatten_replicate_nil]; exact ha)⟩
  · have hne : its.toArray.isEmpty = false := by
      cases its with
      | nil => cases r; exact absurd rfl hx
      | cons _ _ => rfl
    refine call_meets PySem.F.slot_tuple_mul ⟨_, ho, rfl⟩ PySem.F.entry_tuple_mul (PySem.F.args_tuple_mul_2 _ _) (tuple_mul_some a its.toArray n dd sl k t h1 h2 hne (by rw [List.size_toArray]; omega)) ⟨ho, ?_⟩
    have hnew : List.foldl (fun x1 x2 => x1 ++ x2) #[] (List.replicate k.toNat its.toArray) = (List.replicate k.toNat its).flatten.toArray := by
      have := foldl_rep its k.toNat []
      rw [List.nil_append] at this
      exact this
    rw [hnew]
    have hlen : (List.replicate k.toNat xs).flatten.length ≤ sizeLine := by
      rw [len_rep, sizeLine_eq]
      have : k.toNat * xs.length ≤ 1000 * 1000 := Nat.mul_le_mul (by omega) hz
      omega
    refine ⟨.ref _, _, I.laid (t' := s.toks) (o := .tup (List.replicate k.toNat xs).flatten) (fun b ob q => Heap.get?_push_of_some _ q) (Nat.le_refl _) ?_, rfl, q _ _ (Same.new (I.hok.fresh (Nat.le_refl _))) (SqT.of upd_same)⟩
    exact ⟨hlen, (List.replicate k.toNat its).flatten, 0, r.rep k.toNat, Heap.get?_push_size _ rfl⟩
section
variable {X : Cx} {pins : List (Addr × Obj)} {σ : St} {H : Hp} {s : Shared}
end

section
variable {K : PySem.W.Frag} {S : List Addr} {H H' H0 : Hp} {E E' : Hp → V → Prop}
def DTe (K : PySem.W.Frag) (S : List Addr) (E : Hp → V → Prop) (n : Nat) (H : Hp) (x : V) : Prop := ∃ a xs, x = .ref a ∧ SqT K (Vw S H) a xs ∧ xs.length ≤ n ∧ ∀ y ∈ xs, E H y
def LTe (S : List Addr) (E : Hp → V → Prop) (n : Nat) (H : Hp) (x : V) : Prop := ∃ a xs, x = .ref a ∧ Vw S H a = some (.lst xs) ∧ xs.length ≤ n ∧ ∀ y ∈ xs, E H y
instance {n : Nat} [m : Mo E] : Mo (DTe K S E n) := ⟨fun e ⟨a, xs, h1, h2, h3, h4⟩ => ⟨a, xs, h1, (Vw.same e).seqT h2, h3, fun y hy => m.mo e (h4 y hy)⟩⟩
instance {n : Nat} [m : Mo E] : Mo (LTe S E n) := ⟨fun e ⟨a, xs, h1, h2, h3, h4⟩ => ⟨a, xs, h1, Vw.same e _ _ h2, h3, fun y hy => m.mo e (h4 y hy)⟩⟩
variable {σ : St} {te ta tb ts : TE} {t tr : TA} {tl th : TO}
end
section
variable {env : Env} {rest es : List Expr} {k : Nat} {pos : Pos} {a b c : Expr}
end
end L2
set_option Elab.async false
set_option linter.all false
set_option maxRecDepth 100000
namespace L2
open PySem PySem.Spec PyProof.Rows
def cenv1 (X : Cx) (scope : Scope) (z0 : Str) (C : Addr) : Env := { compEnvC scope (clOf X.env scope.names []) C X.env with cells := (z0, C + 1) :: clOf X.env scope.names [] }
def cxComp1 (X : Cx) (scope : Scope) (z0 : Str) (N : List Str) (C : Addr) (s0 : Shared) (H0 : Hp) (fp : List Addr) : Cx where
  prog := X.prog
  w := X.w
  K := X.K
  mg := X.mg
  base := X.base
  A := X.A
  N := N
  s₀ := s0
  H₀ := H0
  env := cenv1 X scope z0 C
  outer := X.stack
  stack := X.stack
  ex := fp
  fn := fun y => y == z0
  calm := X.calm
  pn := []
  xe := fun _ _ => False
def compCheck1 (sc scope : Scope) (z0 : Str) (own : List Str) (frn : List Str) : Bool :=
  scope.kind == .function && scope.names.all (fun y => y.2 != .cell || y.1 == z0) && scope.names.all (fun y => y.2 != .local || scope.names.lookup y.1 == some .local) &&
  scope.names.all (fun y => y.2 != .free || sc.names.lookup y.1 == some .cell || sc.names.lookup y.1 == some .free) && decide (own ++ frn).Nodup &&
  frn.all (fun x => scope.names.lookup x == some .free) && scope.names.lookup z0 == some .cell && scope.names.all (fun y => y.2 != .free || y.1 != z0)
structure CompOk1 (X : Cx) (scope : Scope) (z0 : Str) (own : List Str) (fr : List Nat) (frn : List Str) : Prop where
  ck : compCheck1 X.env.scope scope z0 own frn = true
  ix : ∀ (k : Nat) (x : Str), frn[k]? = some x → ∃ j : Nat, fr[k]? = some j ∧ X.N[j]? = some x
  len : fr.length = frn.length
  cf : ∀ (n : Nat) (cl : List (Str × Addr)), cellsFrom n scope.names cl = (z0, n) :: cl
  pc : ∀ h : Heap, pushCells h scope.names = h.push { cls := .type "cell", data := .cell none }
theorem newEnv1 {M : Model} {A : Around} {E : Value → Shared → Prop} {s : Shared} {scope : Scope} {globals : Addr} {cl : List (Str × Addr)} {qual z0 : Str} {env : Env} {Q : Env → Shared → Prop}
    (cf : ∀ (n : Nat) (cl : List (Str × Addr)), cellsFrom n scope.names cl = (z0, n) :: cl) (pc : ∀ h : Heap, pushCells h scope.names = h.push { cls := .type "cell", data := .cell none })
    (h : Q (newEnv scope s.heap.objs.size globals ((z0, s.heap.objs.size + 1) :: cl) qual none .none (some env) builtinsNs) { s with heap := (s.heap.push { cls := .type "dict", data := .dict #[] }).push { cls := .type "cell", data := .cell none } }) :
    wpAny M A (newFunctionEnv scope globals cl [] qual none .none (some env)) Q E s := by
  simp only [newFunctionEnv, Option.isSome_some, if_true]
  refine wpAny_bind (wpAny_alloc ?_)
  refine wpAny_bind (wpAny_layCells _ (fun name kind cells => by cases hkc : kind == NameKind.cell <;> simp [hkc]) _ _ _ _ ?_)
  rw [cf, pc, show ({ s with heap := s.heap.push { cls := .type "dict", data := .dict #[] } } : Shared).heap.objs.size = s.heap.objs.size + 1 from Heap.size_push ..]
  rw [List.forIn_nil]
  exact wpAny_bind (wpAny_pure (wpAny_pure h))
section
variable {X : Cx} {scope : Scope} {z0 : Str} {own frn : List Str} {fr : List Nat}
theorem CompOk1.parts (S : CompOk1 X scope z0 own fr frn) : scope.kind = .function ∧ (∀ y ∈ scope.names, y.2 = .cell → y.1 = z0) ∧ (∀ y ∈ scope.names, y.2 = .local → scope.names.lookup y.1 = some .local) ∧
    (∀ y ∈ scope.names, y.2 = .free → X.env.scope.names.lookup y.1 = some .cell ∨ X.env.scope.names.lookup y.1 = some .free) ∧ (own ++ frn).Nodup ∧ (∀ x ∈ frn, scope.names.lookup x = some .free) ∧ scope.names.lookup z0 = some .cell ∧ ∀ y ∈ scope.names, y.2 = .free → y.1 ≠ z0 := by
  have h := S.ck
  unfold compCheck1 at h
  simp only [Bool.and_eq_true, List.all_eq_true, decide_eq_true_eq, Bool.or_eq_true, bne_iff_ne, ne_eq, beq_iff_eq] at h
  obtain ⟨⟨⟨⟨⟨⟨⟨h1, h2⟩, h3⟩, h4⟩, h5⟩, h7⟩, h8⟩, h9⟩ := h
  refine ⟨h1, fun y hy e => ?_, fun y hy e => ?_, fun y hy e => ?_, h5, h7, h8, fun y hy e => ?_⟩
  · rcases h2 y hy with z | z
    · exact absurd e z
    · exact z
  · rcases h3 y hy with z | z
    · exact absurd e z
    · exact z
  · rcases h4 y hy with (z | z) | z
    · exact absurd e z
    · exact .inl z
    · exact .inr z
  · rcases h9 y hy with z | z
    · exact absurd e z
    · exact z
theorem blk_length1 (S : CompOk1 X scope z0 own fr frn) (σ : St) : (blk own.length fr σ).length = (own ++ frn).length := by
  unfold blk
  rw [List.length_append, List.length_append, List.length_replicate, List.length_map, S.len]
theorem look1 {x : Str} {c C : Addr} {cl : List (Str × Addr)} (h : ((z0, C + 1) :: cl).lookup x = some c) : (x = z0 ∧ c = C + 1) ∨ (x ≠ z0 ∧ cl.lookup x = some c) := by
  rw [List.lookup_cons] at h
  cases e : x == z0 with
  | true => rw [e] at h; exact .inl ⟨by simpa using e, (Option.some.inj h).symm⟩
  | false => rw [e] at h; exact .inr ⟨by simpa using e, h⟩
theorem look1_ne {x : Str} {C : Addr} {cl : List (Str × Addr)} (h : x ≠ z0) : ((z0, C + 1) :: cl).lookup x = cl.lookup x := by
  rw [List.lookup_cons, show (x == z0) = false by simpa using h]
theorem look1_eq {C : Addr} {cl : List (Str × Addr)} : ((z0, C + 1) :: cl).lookup z0 = some (C + 1) := by
  rw [List.lookup_cons, show (z0 == z0) = true by simp]
theorem inv_comp1 {pins : List (Addr × Obj)} {σ : St} {H : Hp} {s : Shared} {fp : List Addr} {h1 : Heap} {tk : Nat} {C D : Addr} {oD : Obj} {m : Str → Option Value} (I : Inv X pins σ H s) (S : CompOk1 X scope z0 own fr frn)
    (hfp : ∀ b ∈ fp, FpOk X pins H b) (hlt : ∀ b ∈ fp, b < s.heap.objs.size) (hC : s.heap.objs.size ≤ C) (hn : h1.Ns C m) (hk : ∀ b o, s.heap.get? b = some o → h1.get? b = some o)
    (hD : s.heap.objs.size ≤ D) (hDC : D ≠ C) (hoD : h1.get? D = some oD) (hdD : ∀ v, oD.data ≠ .cell v) (hcl : h1.IsCell (C + 1) none) :
    Inv (cxComp1 X scope z0 (own ++ frn) C s H fp) [(D, oD)] (blk own.length fr σ) H { s with heap := h1, toks := tk } := by
  obtain ⟨p1, p2, p3, p4, p5, p7, p8, p9⟩ := S.parts
  have below : ∀ b, b < s.heap.objs.size → b ≠ C := fun b hb z => Nat.lt_irrefl _ (Nat.lt_of_lt_of_le (z ▸ hb) hC)
  have clsub : ∀ x c, (clOf X.env scope.names []).lookup x = some c → X.env.cells.lookup x = some c := fun x c e => by
    rcases clOf_mem _ _ _ _ (lookup_memS e) with q | q
    · cases q
    · exact q
  have clt : ∀ x c, X.env.cells.lookup x = some c → c < s.heap.objs.size := fun x c e => by
    obtain ⟨v, q⟩ := I.cell x c e
    exact q.lt
  have nstk : ∀ b ∈ fp, b ∉ frs X.stack := fun b hb z => by
    obtain ⟨_, f1, f2, _⟩ := hfp b hb
    rcases List.mem_cons.mp (I.stkSub b z) with e | e
    · exact f1 e
    · exact f2 e
  have Dfs : D ∉ frs X.stack := fun z => by
    have q := I.stkSub D z
    rcases List.mem_cons.mp q with e | e
    · exact Nat.lt_irrefl _ (Nat.lt_of_lt_of_le (e ▸ I.lt : D < _) hD)
    · exact I.nofs hD e
  refine ⟨⟨I.ok.mod, p1, I.ok.glob, I.ok.blt, hC, fun x y c e1 e2 => ?inj, fun x hx => ?has, fun x c e e2 => ?cab, I.ok.hd, I.ok.frames, .inl rfl, fun b hb => ?exf, I.bs, Nat.le_trans I.ok.bsz I.sz, fun b o e hb => ?noex, nstk, I.stack, I.stkFree⟩,
    rfl, I.bare, Un.kept hk, ⟨m, hn, fun i x v e1 e2 e3 => ?loc⟩, fun x c e => ?cell, I.hok.fresh hC, fun x c e => ?freeC, fun p hp => ?pin, I.hok.kept hk, blk_length1 S σ⟩
  case inj =>
    have e1' : ((z0, C + 1) :: clOf X.env scope.names []).lookup x = some c := e1
    have e2' : ((z0, C + 1) :: clOf X.env scope.names []).lookup y = some c := e2
    rcases look1 e1' with ⟨rfl, rfl⟩ | ⟨n1, q1⟩ <;> rcases look1 e2' with ⟨rfl, e⟩ | ⟨n2, q2⟩
    · rfl
    · exact absurd (clt _ _ (clsub _ _ q2)) (Nat.not_lt.mpr (Nat.le_succ_of_le hC))
    · subst e
      exact absurd (clt _ _ (clsub _ _ q1)) (Nat.not_lt.mpr (Nat.le_succ_of_le hC))
    · exact I.ok.inj x y c (clsub x c q1) (clsub y c q2)
  case has =>
    have hx' : (relabel scope X.env).names.lookup x = some .cell ∨ (relabel scope X.env).names.lookup x = some .free := hx
    show ∃ c, ((z0, C + 1) :: clOf X.env scope.names []).lookup x = some c
    by_cases hz : x = z0
    · rw [hz, look1_eq]
      exact ⟨_, rfl⟩
    · rw [look1_ne hz]
      have hl : (relabel scope X.env).names.lookup x = _ := lookup_relabel (env := X.env) x scope.names
      rw [hl] at hx'
      cases e : scope.names.lookup x with
      | none =>
        rw [e] at hx'
        rcases hx' with z | z <;> cases z
      | some k =>
        have hmem := lookup_memS e
        have hkf : k = .free := by
          rw [e] at hx'
          simp only [Option.map_some, Option.some.injEq] at hx'
          by_cases c : (k == NameKind.free && X.env.scope.kind == .function && X.env.kindOf x == some .cell) = true
          · simp only [Bool.and_eq_true, beq_iff_eq] at c
            exact c.1.1
          · rw [if_neg c] at hx'
            rcases hx' with z | z
            · exact absurd (p2 _ hmem z) hz
            · exact z
        subst hkf
        obtain ⟨c, hc⟩ := I.ok.has x (p4 _ hmem rfl)
        obtain ⟨c', hc'⟩ := clOf_has (env := X.env) scope.names [] x (.inr ⟨hmem, c, hc⟩)
        exact mem_lookupS hc'
  case cab =>
    have e' : (x == z0) = true := e
    have e2' : ((z0, C + 1) :: clOf X.env scope.names []).lookup x = some c := e2
    rcases look1 e2' with ⟨_, rfl⟩ | ⟨n1, _⟩
    · exact Nat.le_succ_of_le hC
    · exact absurd (by simpa using e') n1
  case exf =>
    refine ⟨below b (hlt b hb), fun x c e => ?_⟩
    have e' : ((z0, C + 1) :: clOf X.env scope.names []).lookup x = some c := e
    rcases look1 e' with ⟨_, rfl⟩ | ⟨_, q⟩
    · exact fun z => Nat.lt_irrefl _ (Nat.lt_of_lt_of_le (hlt b hb) (by rw [← z]; exact Nat.le_succ_of_le hC))
    · exact (hfp b hb).2.2.2.2.1 x c (clsub x c q)
  case noex =>
    rcases (hfp b hb).2.2.2.1 with z | z
    · exact I.ok.noex b o e z
    · exact absurd (Nat.lt_of_lt_of_le (Heap.lt_size (I.ok.bs b o e).1) z) (Nat.lt_irrefl _)
  case loc =>
    show ∃ u, RelV v u ∧ Look _ _ _ x u
    have e1' : (own ++ frn)[i]? = some x := e1
    have e2' : (blk own.length fr σ)[i]? = some (some v) := e2
    unfold blk at e2'
    by_cases hi : i < own.length
    · rw [List.getElem?_append_left (by simpa using hi), List.getElem?_replicate] at e2'
      rw [if_pos hi] at e2'
      cases e2'
    · rw [List.getElem?_append_right (by simpa using hi)] at e2'
      rw [List.getElem?_append_right (by omega)] at e1'
      rw [List.length_replicate, List.getElem?_map] at e2'
      obtain ⟨j, hj1, hj2⟩ := S.ix _ _ e1'
      rw [hj1] at e2'
      simp only [Option.map_some, Option.some.injEq] at e2'
      have hσ : σ[j]? = some (some v) := by
        cases q : σ[j]? with
        | none => rw [q] at e2'; cases e2'
        | some w => rw [q] at e2'; exact congrArg some e2'
      have hfree := p7 x (List.mem_of_getElem? e1')
      have hmem := lookup_memS hfree
      have hxz : x ≠ z0 := p9 _ hmem rfl
      have kx := p4 _ hmem rfl
      have vis : Vis X.env.scope x := by
        rcases kx with z | z
        · exact .inr (.inl z)
        · exact .inr (.inr z)
      obtain ⟨m0, hn0, hl0⟩ := I.loc
      obtain ⟨u, ru, lk⟩ := hl0 j x v hj2 hσ vis
      refine ⟨u, ru, .inr ⟨?_, ?_⟩⟩
      · show (relabel scope X.env).names.lookup x = some .cell ∨ (relabel scope X.env).names.lookup x = some .free
        have hl : (relabel scope X.env).names.lookup x = _ := lookup_relabel (env := X.env) x scope.names
        rw [hl, hfree]
        simp only [Option.map_some, Option.some.injEq]
        by_cases c : (NameKind.free == NameKind.free && X.env.scope.kind == .function && X.env.kindOf x == some .cell) = true
        · rw [if_pos c]; exact .inl rfl
        · rw [if_neg c]; exact .inr rfl
      · rcases lk with ⟨kl, _⟩ | ⟨_, c, hc, hcell⟩
        · have kl' : X.env.scope.names.lookup x = some .local := kl
          rcases kx with z | z <;> (have z' : X.env.scope.names.lookup x = _ := z; rw [kl'] at z'; cases z')
        · obtain ⟨c', hc'⟩ := clOf_has (env := X.env) scope.names [] x (.inr ⟨hmem, c, hc⟩)
          obtain ⟨c2, hc2⟩ := mem_lookupS hc'
          have ec : c2 = c := by
            have := clsub x c2 hc2
            rw [hc] at this
            exact (Option.some.inj this).symm
          subst ec
          obtain ⟨oc, ho, hd⟩ := hcell
          exact ⟨c2, (look1_ne hxz).trans hc2, oc, hk _ _ ho, hd⟩
  case cell =>
    have e' : ((z0, C + 1) :: clOf X.env scope.names []).lookup x = some c := e
    rcases look1 e' with ⟨_, rfl⟩ | ⟨_, q⟩
    · exact ⟨none, hcl⟩
    · obtain ⟨v, o, ho, hd⟩ := I.cell x c (clsub x c q)
      exact ⟨v, o, hk _ _ ho, hd⟩
  case freeC =>
    have e' : ((z0, C + 1) :: clOf X.env scope.names []).lookup x = some c := e
    rcases look1 e' with ⟨_, rfl⟩ | ⟨_, q⟩
    · exact I.hok.fresh (Nat.le_succ_of_le hC)
    · exact I.freeC x c (clsub x c q)
  case pin =>
    have hp' : p ∈ ([] : List (Addr × Obj)) ++ [(D, oD)] := hp
    simp only [List.nil_append, List.mem_singleton] at hp'
    subst hp'
    exact ⟨hoD, I.hok.fresh hD, hDC, Dfs, hdD⟩
end
section
variable {X : Cx} {scope : Scope} {z0 : Str} {own frn : List Str} {fr : List Nat} {elt tg iter : Expr} {ifs : List Expr} {pos : Pos} {wi : TI} {g : TG} {tt : TT} {te : TE}
theorem comp_block1 {pins : List (Addr × Obj)} {σ : St} {H2 : Hp} {s2 : Shared} {it : Addr} {fp : List Addr} {tn : Nat → Heap → Prop} {J : It} {RR : Value → Addr → Result → Shared → Prop} {E : Value → Shared → Prop} {Q : Hp → List V → Prop}
    (S : CompOk1 X scope z0 own fr frn) (hc : X.calm = true) (I2 : Inv X pins σ H2 s2) (T : Turn X.prog X.w X.K tg J fp it tn) (st2 : tn 0 s2.heap) (f2 : ∀ b ∈ fp, FpOk X pins H2 b)
    (hg : ∀ C s0 H0 fp, PG (cxComp1 X scope z0 (own ++ frn) C s0 H0 fp) tg g) (ht : ∀ C s0 H0 fp, PF (cxComp1 X scope z0 (own ++ frn) C s0 H0 fp) ifs tt) (he : ∀ C s0 H0 fp, PE (cxComp1 X scope z0 (own ++ frn) C s0 H0 fp) elt te)
    (w : ∃ W : Nat → Nat → List V → St → Hp → Prop, (∃ m, W 0 m [] (blk own.length fr σ) H2) ∧ ∀ i m ys σ' H, W i m ys σ' H →
      (J.stop i H ∧ Q H ys) ∨
      (J.go i H ∧ ∃ N : List V → St → Hp → Prop, (∀ ys' σ2 H2, N ys' σ2 H2 → ∃ m', m' < m ∧ W (i + 1) m' ys' σ2 H2) ∧
        ∀ x H', J.yld i H x H' → g x σ' H' fun σ2 H2 => tt σ2 H2 fun b H3 => if b = true then te σ2 H3 fun y H4 => ys.length < sizeLine ∧ N (ys ++ [y]) σ2 H4 else N ys σ2 H3))
    (hRR : ∀ (C D : Addr) (s' : Shared) (H' : Hp) (ys : List V) (its : Array Value) (m : Str → Option Value), s2.heap.objs.size ≤ C → s2.heap.objs.size ≤ D → D ≠ C → s'.heap.Ns C m → H' C = none → H' D = none → s'.heap.PlainList D its → Vals ys its.toList → ys.length ≤ sizeLine →
      Inv X pins σ H' s' → Q H' ys → RR (.ref D) C (.ok .next) s') :
    wpAny (model X.prog X.w) X.A (newList []) (fun acc s₃ => wpAny (model X.prog X.w) X.A (newFunctionEnv scope X.env.globals (clOf X.env scope.names []) [] X.env.qual none .none (some X.env)) (fun cenv s₄ =>
      codeAny (model X.prog X.w) X.A (.compStart (.ListComp elt [⟨tg, iter, ifs, 0⟩] scope pos) 0 (.ref it) acc { cenv with scope := relabel scope X.env }) (RR acc cenv.locals) s₄) E s₃) E s2 := by
  obtain ⟨p1, p2, p3, p4, p5, p7, p8, p9⟩ := S.parts
  obtain ⟨W, ⟨m0, w0⟩, turn⟩ := w
  refine wpAny_newObj_type (newEnv1 S.cf S.pc ?_)
  dsimp only
  generalize hH2 : s2.heap.push { cls := .type "list", dict := none, data := .seq ([] : List Value).toArray } = HD
  generalize hh1 : (HD.push { cls := .type "dict", data := .dict #[] }).push { cls := .type "cell", data := .cell none } = h₁
  have hCs : HD.objs.size = s2.heap.objs.size + 1 := by rw [← hH2, Heap.size_push]
  have hns₁ : h₁.Ns HD.objs.size (fun _ => none) := by rw [← hh1]; exact (Heap.Ns.new HD (.type "dict")).push _
  have hcell : h₁.IsCell (HD.objs.size + 1) none := by
    rw [← hh1]
    refine ⟨{ cls := .type "cell", data := .cell none }, ?_, rfl⟩
    have e := Heap.get?_push_size (HD.push { cls := .type "dict", data := .dict #[] }) (o := { cls := .type "cell", data := .cell none }) rfl
    rw [Heap.size_push] at e
    exact e
  have hDC : s2.heap.objs.size ≠ HD.objs.size := by omega
  have hCle : s2.heap.objs.size ≤ HD.objs.size := by omega
  have below : ∀ b, b < s2.heap.objs.size → b ≠ HD.objs.size ∧ b ≠ s2.heap.objs.size := fun b hb => ⟨by omega, by omega⟩
  have old : ∀ b o, s2.heap.get? b = some o → h₁.get? b = some o := fun b o e => by rw [← hh1]; exact Heap.get?_push_of_some _ (Heap.get?_push_of_some _ (hH2 ▸ Heap.get?_push_of_some _ e))
  have hacc : h₁.get? s2.heap.objs.size = some { cls := .type "list", data := .seq ([] : List Value).toArray } := by rw [← hh1]; exact Heap.get?_push_of_some _ (Heap.get?_push_of_some _ (hH2 ▸ Heap.get?_push_size _ rfl))
  have flt : ∀ b ∈ fp, b < s2.heap.objs.size := fun b hb => by
    obtain ⟨o, e, _⟩ := T.obj _ _ st2 b hb
    exact Heap.lt_size e
  generalize hDg : s2.heap.objs.size = D at *
  generalize hCg : HD.objs.size = C at *
  have st3 : tn 0 h₁ := T.keep _ _ _ st2 fun b _ o e => old b o e
  -- facts of the block
  have clsub : ∀ x c, (clOf X.env scope.names []).lookup x = some c → X.env.cells.lookup x = some c := fun x c e => by
    rcases clOf_mem _ _ _ _ (lookup_memS e) with q | q
    · cases q
    · exact q
  have hcs : ∀ x c, ((z0, C + 1) :: clOf X.env scope.names []).lookup x = some c → c = C + 1 ∨ X.env.cells.lookup x = some c := fun x c e => by
    rcases look1 e with ⟨_, e⟩ | ⟨_, e⟩
    · exact .inl e
    · exact .inr (clsub x c e)
  have cD : ∀ x c, ((z0, C + 1) :: clOf X.env scope.names []).lookup x = some c → c ≠ D := fun x c e z => by
    rcases hcs x c e with e | e
    · omega
    obtain ⟨v, q⟩ := I2.cell x c e
    exact Nat.lt_irrefl _ (Nat.lt_of_lt_of_le q.lt (by rw [hDg, z]; exact Nat.le_refl _))
  have loop : ∀ s₃ : Shared, s₃ = { s2 with heap := h₁, toks := s2.toks } →
      codeAny (model X.prog X.w) X.A (.compLoop (.ListComp elt [⟨tg, iter, ifs, 0⟩] scope pos) 0 (.ref it) (.ref D) (cenv1 X scope z0 C)) (RR (.ref D) C) s₃ := by
    rintro s₃ rfl
    have I3 : Inv (cxComp1 X scope z0 (own ++ frn) C s2 H2 fp) [(D, _)] (blk own.length fr σ) H2 { s2 with heap := h₁, toks := s2.toks } :=
      inv_comp1 (m := fun _ => none) I2 S f2 (by rw [hDg]; exact flt) (by rw [hDg]; exact hCle) (hns₁ : h₁.Ns C _) old (by rw [hDg]; exact Nat.le_refl _) hDC hacc (fun v z => by cases z) hcell
    have stat : ∀ {H' : Hp} {pl : List (Addr × Obj)}, (∀ p ∈ pl, p.1 = D) → (∀ b ∈ fp, H' b = none) → ∀ b ∈ fp, FpOk (cxComp1 X scope z0 (own ++ frn) C s2 H2 fp) pl H' b := fun {H' pl} hpl hn b hb => by
      refine ⟨hn b hb, (below b (flt b hb)).1, fun z => ?_, .inl hb, fun x c e => (by
        rcases hcs x c e with e | e
        · exact fun z => Nat.lt_irrefl _ (Nat.lt_of_lt_of_le (flt b hb) (by rw [← z, e]; exact Nat.le_succ_of_le hCle))
        · exact (f2 b hb).2.2.2.2.1 x c e), fun p hp => ?_⟩
      · have z' : b ∈ frs X.stack := z
        rcases List.mem_cons.mp (I2.stkSub b z') with e | e
        · exact (f2 b hb).2.1 e
        · exact (f2 b hb).2.2.1 e
      · have hp' : p ∈ pl := by simpa [cxComp1] using hp
        rw [hpl p hp']
        exact Ne.symm (below b (flt b hb)).2
    refine compLoop_go (env := cenv1 X scope z0 C) (fun n s' => ∃ i σ' H' ys its o, Inv (cxComp1 X scope z0 (own ++ frn) C s2 H2 fp) [(D, o)] σ' H' s' ∧ s'.heap.PlainList D its ∧ Vals ys its.toList ∧ ys.length ≤ sizeLine ∧ tn i s'.heap ∧ (∀ b ∈ fp, H' b = none) ∧ W i n ys σ' H') ?_ m0
      ⟨0, _, H2, [], #[], _, I3, ⟨_, hacc⟩, .nil, Nat.zero_le _, st3, fun b hb => (f2 b hb).1, w0⟩
    rintro n s5 ⟨i, σ5, H5, ys, its, o, I5, pl5, v5, z5, st5, fr5, w5⟩
    have one : ∀ {o : Obj}, ∀ p ∈ [(D, o)], p.1 = D := fun p hp => by
      have e := List.mem_singleton.mp hp
      rw [e]
    rcases turn i n ys σ5 H5 w5 with ⟨stop, qn⟩ | ⟨go, N, hN, step⟩
    · refine wpAny_mono (T.done (cxComp1 X scope z0 (own ++ frn) C s2 H2 fp) rfl rfl rfl hc i _ s5 σ5 H5 (fun _ _ => False) I5 (stat one fr5) st5 stop) (fun r s6 hx9 => ?_) fun _ _ z => z
      obtain ⟨hr, I6⟩ := hx9
      subst hr
      obtain ⟨m6, hn6, _⟩ := I6.loc
      have p6 := I6.pin (D, o) (by simp [cxComp1])
      have p5' := I5.pin (D, o) (by simp [cxComp1])
      have pl6 : s6.heap.PlainList D its := by
        obtain ⟨k, e⟩ := pl5
        have e1 : o = _ := Option.some.inj (p5'.1.symm.trans e)
        exact ⟨k, by rw [p6.1]; exact congrArg some e1⟩
      have IX : Inv X pins σ H5 s6 := I2.call' (ch := fp) I6.os I6.base I6.hok I6.bare fun b hb => ⟨(f2 b hb).2.2.2.1, (f2 b hb).2.1, (f2 b hb).2.2.2.2.1, (f2 b hb).2.2.2.2.2⟩
      exact hRR C D s6 H5 ys its m6 hCle (Nat.le_refl _) hDC hn6 I6.free p6.2.1 pl6 v5 z5 IX qn
    · refine wpAny_mono (T.item (cxComp1 X scope z0 (own ++ frn) C s2 H2 fp) rfl rfl rfl hc i _ s5 σ5 H5 (fun _ _ => False) I5 (stat one fr5) st5 go) (fun r s6 hx9 => ?_) fun _ _ z => z
      obtain ⟨u, hr, h6⟩ := hx9
      subst hr
      refine wpAny_mono h6 (fun _ s7 hx9 => ?_) fun _ _ z => z
      obtain ⟨x, H7, I7, r7, y7, st7, fr7⟩ := hx9
      have I7' := I7.pinned (stat one fr7) (T.obj _ _ st7)
      refine wpAny_mono (hg C s2 H2 fp _ s7 σ5 H7 x u _ I7' r7 (step x H7 y7)) (fun _ s8 hx9 => ?_) fun _ _ z => z
      obtain ⟨σ8, H8, I8, q8⟩ := hx9
      refine wpAny_mono (ht C s2 H2 fp _ s8 σ8 H8 _ I8 q8) (fun b s9 hx9 => ?_) fun _ _ z => z
      obtain ⟨H9, I9, q9⟩ := hx9
      -- what stands of the iterator and of the gathered list behind the tests, behind the item
      have keepT : ∀ {H' : Hp} {s' : Shared} {σ' : St}, Inv (cxComp1 X scope z0 (own ++ frn) C s2 H2 fp) ([(D, o)] ++ pinsAt fp s7.heap) σ' H' s' → tn (i + 1) s'.heap ∧ (∀ b ∈ fp, H' b = none) ∧ s'.heap.PlainList D its ∧ H' D = none := fun {H' s' σ'} I' => by
        refine ⟨T.keep _ _ _ st7 fun b hb o e => (I'.pin (b, o) (List.mem_append_right _ (List.mem_append_right _ (mem_pinsAt hb e)))).1, fun b hb => ?_, ?_, ?_⟩
        · obtain ⟨o, e, d⟩ := T.obj _ _ st7 b hb
          exact (I'.pin (b, o) (List.mem_append_right _ (List.mem_append_right _ (mem_pinsAt hb e)))).2.1
        · have p' := I'.pin (D, o) (by simp [cxComp1])
          have p5' := I5.pin (D, o) (by simp [cxComp1])
          obtain ⟨k, e⟩ := pl5
          have e1 : o = _ := Option.some.inj (p5'.1.symm.trans e)
          exact ⟨k, by rw [p'.1]; exact congrArg some e1⟩
        · exact (I'.pin (D, o) (by simp [cxComp1])).2.1
      cases b with
      | false =>
        rw [if_neg Bool.false_ne_true] at q9
        rw [if_neg Bool.false_ne_true]
        obtain ⟨m', hm, w'⟩ := hN ys σ8 H9 q9
        obtain ⟨t9, fr9, pl9, _⟩ := keepT I9
        exact ⟨m', hm, i + 1, σ8, H9, ys, its, o, I9.unpinned, pl9, v5, z5, t9, fr9, w'⟩
      | true =>
        rw [if_pos rfl] at q9
        rw [if_pos rfl]
        refine wpAny_mono (he C s2 H2 fp _ s9 σ8 H9 _ I9 q9) (fun y s10 hx9 => ?_) fun _ _ z => z
        obtain ⟨yv, H10, I10, r10, lt10, q10⟩ := hx9
        obtain ⟨t10, fr10, pl10, hD10⟩ := keepT I10
        have hl := v5.length
        refine wpAny_list_append_plain pl10 (fun h11 pl11 sb11 => ?_) (by rw [← Array.length_toList, ← hl]; exact Nat.le_of_lt lt10)
        obtain ⟨m', hm, w'⟩ := hN _ σ8 H10 q10
        have I10' : Inv (cxComp1 X scope z0 (own ++ frn) C s2 H2 fp) [] σ8 H10 s10 := I10.pins_of fun p hp => by cases hp
        have I11 : Inv (cxComp1 X scope z0 (own ++ frn) C s2 H2 fp) [] σ8 H10 { s10 with heap := h11 } :=
          I10'.turned (t' := s10.toks) (it := D) (fun b o hb e => (sb11.2 b hb).trans e) hD10 hDC (.inr (by show s2.heap.objs.size ≤ D; rw [hDg]; exact Nat.le_refl _)) cD (fun p hp => by simp [cxComp1] at hp)
        obtain ⟨k11, e11⟩ := id pl11
        have DfsX : D ∉ frs X.stack := fun z => by
          rcases List.mem_cons.mp (I2.stkSub D z) with e | e
          · exact Nat.lt_irrefl _ (Nat.lt_of_lt_of_le I2.lt (by rw [hDg, e]; exact Nat.le_refl _))
          · exact I2.nofs (by rw [hDg]; exact Nat.le_refl _) e
        refine ⟨m', hm, i + 1, σ8, H10, ys ++ [yv], its.push y, { cls := .type "list", data := .seq (its.push y) k11 }, I11.pins_of fun p hp => ?_, pl11, ?_, by rw [List.length_append]; show ys.length + 1 ≤ _; omega, T.keep _ _ _ t10 fun b hb o e => (sb11.2 b (below b (flt b hb)).2).trans e, fr10, w'⟩
        · have e := List.mem_singleton.mp hp
          subst e
          exact ⟨e11, hD10, hDC, DfsX, fun v z => by cases z⟩
        · rw [Array.toList_push]
          exact v5.append (.cons r10 .nil)
  exact codeAny_compStart_list (loop _ rfl) (T.self X.A 0 _ _ _ st3 (loop _ rfl))

theorem CompOk1.clo {pins : List (Addr × Obj)} {σ : St} {H : Hp} {s : Shared} (S : CompOk1 X scope z0 own fr frn) (I : Inv X pins σ H s) : closureFor scope X.env = pure (clOf X.env scope.names []) := by
  obtain ⟨p1, p2, p3, p4, p5, p7, p8, p9⟩ := S.parts
  exact clo_of fun y hy e => I.ok.has y.1 (p4 y hy e)

theorem pe_comp1 (S : CompOk1 X scope z0 own fr frn) (hc : X.calm = true) (hi : PI X tg iter wi) (hg : ∀ C s0 H0 fp, PG (cxComp1 X scope z0 (own ++ frn) C s0 H0 fp) tg g) (ht : ∀ C s0 H0 fp, PF (cxComp1 X scope z0 (own ++ frn) C s0 H0 fp) ifs tt)
    (he : ∀ C s0 H0 fp, PE (cxComp1 X scope z0 (own ++ frn) C s0 H0 fp) elt te) (hs : ∀ x, foldedSetIterable iter X.env x = pure x := by intro _; rfl) :
    PE X (.ListComp elt [⟨tg, iter, ifs, 0⟩] scope pos) (tComp own.length fr wi g tt te) := by
  intro pins s σ H Q I h
  obtain ⟨p1, p2, p3, p4, p5, p7, p8, p9⟩ := S.parts
  rw [eval_ListComp]
  refine wpAny_comprehension_free (use := none) rfl hs (S.clo I) p1 p3 (thn (hi pins s σ H _ I h) fun v s1 h1 => thn h1 fun itv s2 h2 => ?_)
  obtain ⟨it, fp, tn, J, H2, e, I2, T, st2, f2, hw⟩ := h2
  subst e
  refine comp_block1 (RR := fun acc C => compPost (model X.prog X.w) X.A X.xe none (EP X pins σ Q) acc C) (Q := fun H ys => ∀ p, H p = none → Q (.ref p) (upd H p (.lst ys))) S hc I2 T st2 f2 hg ht he hw ?_
  intro C D s' H' ys its m hC hD hDC hns hHC hHD pl v z IX q
  have cne : ∀ a, s2.heap.objs.size ≤ a → ∀ x c, X.env.cells.lookup x = some c → c ≠ a := fun a ha x c e z => by
    obtain ⟨v, w⟩ := I2.cell x c e
    exact Nat.lt_irrefl _ (Nat.lt_of_lt_of_le w.lt (by rw [z]; exact ha))
  have pne : ∀ a, s2.heap.objs.size ≤ a → ∀ p ∈ X.pn ++ pins, p.1 ≠ a := fun a ha p hp z => Nat.lt_irrefl _ (Nat.lt_of_lt_of_le (Heap.lt_size (I2.pin p hp).1) (by rw [z]; exact ha))
  have lne : ∀ a, s2.heap.objs.size ≤ a → a ≠ X.env.locals := fun a ha z => Nat.lt_irrefl _ (Nat.lt_of_lt_of_le I2.lt (by rw [← z]; exact ha))
  refine ⟨m, hns, fun h' hs' => ⟨.ref D, upd H' D (.lst ys), ?_, rfl, q D hHD⟩⟩
  have IT : Inv X pins σ (upd H' D (.lst ys)) s' := IX.track pl v z hHD (lne D hD) (Nat.le_trans I2.sz hD) (cne D hD) (pne D hD)
  exact IT.turned (t' := s'.toks) (it := C) (fun b o hb e => (hs'.2 b hb).trans e) (by rw [upd_ne (Ne.symm hDC)]; exact hHC) (lne C hC) (.inr (Nat.le_trans I2.sz hC)) (cne C hC) (pne C hC)

end

theorem compOk1_of {X : Cx} {scope : Scope} {z0 : Str} {own frn : List Str} {fr : List Nat} (sc : Scope) (N : List Str) (h1 : X.env.scope = sc) (h2 : X.N = N) (cf : ∀ (n : Nat) (cl : List (Str × Addr)), cellsFrom n scope.names cl = (z0, n) :: cl) (pc : ∀ h : Heap, pushCells h scope.names = h.push { cls := .type "cell", data := .cell none })
    (h : (compCheck1 sc scope z0 own frn && ixCheck N frn fr) = true) : CompOk1 X scope z0 own fr frn := by
  rw [Bool.and_eq_true] at h
  obtain ⟨ha, hb⟩ := h
  unfold ixCheck at hb
  simp only [Bool.and_eq_true, beq_iff_eq, List.all_eq_true] at hb
  refine ⟨by rw [h1]; exact ha, fun k x hk => ?_, hb.1.symm, cf, pc⟩
  have hlt : k < fr.length := by rw [← hb.1]; exact (List.getElem?_eq_some_iff.mp hk).1
  refine ⟨fr[k], List.getElem?_eq_getElem hlt, ?_⟩
  have hm : (x, fr[k]) ∈ frn.zip fr := by
    refine List.mem_of_getElem? (i := k) ?_
    rw [List.getElem?_zip_eq_some]
    exact ⟨hk, List.getElem?_eq_getElem hlt⟩
  rw [h2]
  exact hb.2 _ hm
def relS (scope sc : Scope) : Scope := { scope with names := scope.names.map fun (n, k) => if (k == NameKind.free && sc.kind == .function && sc.names.lookup n == some .cell) then (n, NameKind.cell) else (n, k) }
end L2
set_option Elab.async false
set_option linter.all false
set_option maxRecDepth 100000
namespace L2
open PySem PySem.Spec PyProof.Rows
section
variable {X : Cx}
end
theorem b_min : bootBuiltins "min" = some (.builtin "min") := by decide +kernel
end L2
set_option Elab.async false
set_option linter.all false
set_option maxRecDepth 100000
namespace L2
open PySem PySem.Spec PyProof.Rows
section
variable {P : Program} {w : World} {K : PySem.W.Frag} {mg : Str → Option Value} {base : Heap} {N : List Str} {qual : Str} {scope : Scope} {f : Addr} {cd : Value} {A : Around} {outer : List Env} {s0 : Shared} {H0 : Hp} {E : XK}
end
end L2
set_option Elab.async false
set_option linter.all false
set_option maxRecDepth 100000
namespace L2
open PySem PySem.Spec PyProof.Rows
abbrev vbm : List Value := [.type "ValueError", .type "Exception", .type "BaseException", .type "object"]
def qns : List Str := ["__init__", "__getattribute__", "__getattr__", "__class__"]
inductive TailN (h : Heap) (bmB : List Value) : List Value → Prop
  | base : TailN h bmB bmB
  | own {A : Addr} {c0 : Value} {dd : Option Addr} {cd : ClassData} {sl : Array (Option Value)} {mA : Str → Option Value} {tl : List Value} :
      h.get? A = some { cls := c0, dict := dd, data := .cls cd, slots := sl } → h.Ns cd.ns mA → (∀ n ∈ qns, mA n = none) → TailN h bmB tl → TailN h bmB (.ref A :: tl)
theorem TailN.tail {h : Heap} {bmB tl : List Value} (T : TailN h bmB tl) : OwnTail h bmB tl := by
  induction T with
  | base => exact .base
  | own hA hN hq _ ih => exact .own hA hN (hq _ (.head _)) ih
theorem TailN.keeps {h h' : Heap} {bmB tl : List Value} (T : TailN h bmB tl) (hk : ∀ b o, h.get? b = some o → h'.get? b = some o) : TailN h' bmB tl := by
  induction T with
  | base => exact .base
  | own hA hN hq _ ih => exact .own (hk _ _ hA) (hN.keeps hk) hq ih
def EcH (h : Heap) (C : Addr) (bm : List Value) : Prop := ∃ N nm q bs hdct sn sub ab col dd k0 k1 k2 k3 k5 mN, h.get? C = some (excClassObj nm q C N bs bm hdct sn sub ab col dd k0 k1 k2 k3 k5 "ValueError.__new__") ∧ h.Ns N mN ∧ (∀ n ∈ qns, mN n = none) ∧ TailN h vbm bm
theorem EcH.keeps {h h' : Heap} {C : Addr} {bm : List Value} (x : EcH h C bm) (hk : ∀ b o, h.get? b = some o → h'.get? b = some o) : EcH h' C bm := by
  obtain ⟨N, nm, q, bs, hdct, sn, sub, ab, col, dd, k0, k1, k2, k3, k5, mN, hC, hN, hq, T⟩ := x
  exact ⟨N, nm, q, bs, hdct, sn, sub, ab, col, dd, k0, k1, k2, k3, k5, mN, hk _ _ hC, hN.keeps hk, hq, T.keeps hk⟩
section
variable {M : Model} {prog : Program} {w : World} {A : Around} {E : Value → Shared → Prop} {h : Heap} {g : Array GenState} {d : Drawn} {t : Nat} {os : OsState} {a C : Addr} {o : Obj} {bm : List Value}
theorem EcH.has {T : String} (x : EcH h C bm) (hb : vbm.contains (.type T) = true) : (Value.ref C :: bm).contains (.type T) = true := by
  obtain ⟨N, nm, q, bs, hdct, sn, sub, ab, col, dd, k0, k1, k2, k3, k5, mN, hC, hN, hmN, TT⟩ := x
  rw [List.contains_cons, TT.tail.hasType hb, Bool.or_true]
end
end L2
set_option Elab.async false
set_option linter.all false
set_option maxRecDepth 100000
namespace L2
open PySem PySem.Spec PyProof.Rows
section
variable {M : Model} {prog : Program} {w : World} {A : Around} {E : Value → Shared → Prop} {h : Heap} {g : Array GenState} {d : Drawn} {t : Nat} {os : OsState} {a C : Addr} {o : Obj} {bm : List Value}
end
end L2
set_option Elab.async false
set_option linter.all false
set_option maxRecDepth 100000
namespace L2
open PySem PySem.Spec PyProof.Rows
section
variable {X : Cx}
end
end L2
set_option Elab.async false
set_option linter.all false
set_option maxRecDepth 100000
namespace L2
open PySem PySem.Spec PyProof.Rows
section
variable {P : Program} {w : World} {l : List Env} {H H' : Hp} {s s' : Shared} {E : XK} {a T C : Addr}
end
section
variable {X : Cx} {pins : List (Addr × Obj)} {σ : St} {H : Hp} {s s' : Shared} {E : XK} {e : Value} {M : Model} {A : Around} {F : Value → Shared → Prop} {L : Addr}
end
end L2
set_option Elab.async false
set_option linter.all false
set_option maxRecDepth 100000
namespace L2
open PySem PySem.Spec PyProof.Rows
section
variable {M : Model} {A : Around} {E : Value → Shared → Prop} {h : Heap} {g : Array GenState} {d : Drawn} {t : Nat} {os : OsState} {a C C' : Addr} {oe : Obj} {bm bm' : List Value}
end
section
variable {X : Cx} {k : Nat} {f : Addr} {fd : FuncData} {ps : List Str} {sp : Sp} {dvs : List V} {ds : List Value} {x : Str} {p pos apos : Pos} {e : Expr} {es : List Expr} {t : TA}
end
end L2
set_option Elab.async false
set_option linter.all false
set_option maxRecDepth 100000
namespace L2
open PySem PySem.Spec PyProof.Rows
section
variable {X : Cx} {K : PySem.W.Frag}
end
end L2
set_option Elab.async false
set_option linter.all false
set_option maxRecDepth 100000
namespace L2
open PySem PySem.Spec PyProof.Rows
structure PEo (X : Cx) (e : Expr) (t : TE) : Prop where
  go : PE X e t
structure PAo (X : Cx) (es : List Expr) (t : TA) : Prop where
  go : PA X es t
structure PSo (X : Cx) (st : Stmt) (t : TS) : Prop where
  go : PS X st t
structure PSso (X : Cx) (sts : List Stmt) (t : TS) : Prop where
  go : PSs X sts t
section
variable {X : Cx} {pos : Pos} {e a b : Expr} {es : List Expr} {te ta tb : TE} {t : TA} {st : Stmt} {rest : List Stmt} {ts us : TS}
end
end L2
set_option Elab.async false
set_option linter.all false
set_option maxRecDepth 100000
namespace L2
open PySem PySem.Spec PyProof.Rows
def tDt (K : PySem.W.Frag) (Z : List Addr) (S : St → Prop) (d : PyData) : TE := fun σ H Q => S σ ∧ Fx Z H ∧ ∀ v H', Same H H' → Den K (Vw Z H') d v → Q v H'
def tDA (K : PySem.W.Frag) (Z : List Addr) (S : St → Prop) (ds : List PyData) : TA := fun σ H Q => S σ ∧ Fx Z H ∧ ∀ vs H', Same H H' → DenAll K (Vw Z H') ds vs → Q vs H'
structure Dt (X : Cx) (K : PySem.W.Frag) (Z : List Addr) (S : St → Prop) (e : Expr) (d : PyData) : Prop where
  go : PE X e (tDt K Z S d)
structure DA (X : Cx) (K : PySem.W.Frag) (Z : List Addr) (S : St → Prop) (es : List Expr) (ds : List PyData) : Prop where
  go : PA X es (tDA K Z S ds)
section
variable {X : Cx} {K : PySem.W.Frag} {Z : List Addr} {S : St → Prop} {te : TE} {pos : Pos} {e a b : Expr} {es : List Expr} {d : PyData} {ds : List PyData}
theorem PE.imp {t t' : TE} (h : PE X e t) (q : ∀ σ H Q, t' σ H Q → t σ H Q) : PE X e t' := fun pins s σ H Q I z => h pins s σ H Q I (q σ H Q z)
theorem PA.imp {t t' : TA} (h : PA X es t) (q : ∀ σ H Q, t' σ H Q → t σ H Q) : PA X es t' := fun pos pins s σ H Q I z => h pos pins s σ H Q I (q σ H Q z)
theorem PSso.ex {sts : List Stmt} {t : TS} {R : TS → Prop} (h : PSso X sts t) (r : R t) : ∃ t, PSs X sts t ∧ R t := ⟨t, h.go, r⟩
end
end L2
set_option Elab.async false
set_option linter.all false
set_option maxRecDepth 100000
namespace L2
open PySem PySem.Spec PyProof.Rows
section
variable {X : Cx} {tg l : Expr} {body : List Stmt} {tl : TE} {g : TG} {tb : TS} {pos : Pos}
end
theorem Vw1_keep {fl : Addr} {H H' : Hp} (e : ∀ b o, b ≠ fl → H b = some o → H' b = some o) : Same (Vw [fl] H) (Vw [fl] H') := Vw.keep fun b o n h => e b o (by simpa using n) h
end L2
set_option Elab.async false
set_option linter.all false
set_option maxRecDepth 100000
namespace L2
open PySem PySem.Spec PyProof.Rows
end L2
set_option Elab.async false
set_option linter.all false
set_option maxRecDepth 100000
namespace L2
open PySem PySem.Spec PyProof.Rows
section
variable {prog : Program} {w : World} {A : Around} {E : Value → Shared → Prop} {s : Shared}
end
end L2
set_option Elab.async false
set_option linter.all false
set_option maxRecDepth 100000
namespace L2
open PySem PySem.Spec PyProof.Rows
section
variable {X : Cx}
end
end L2
set_option Elab.async false
set_option linter.all false
set_option maxRecDepth 100000
namespace L2
open PySem PySem.Spec PyProof.Rows
section
variable {prog : Program} {w : World} {A : Around} {E : Value → Shared → Prop} {s : Shared} {e it l : Addr} {n : Nat} {P : Nat → Value → Prop} {st : Nat → Heap → Prop}
theorem enumItem {i : Nat} {old : Value} {Q : Value → Shared → Prop} (S : Sub prog w it l n P st) (hei : e ≠ it) (hel : l ≠ e) (he : IsEnum s.heap e it i old) (h1 : st i s.heap) (hi : i < n)
    (hQ : ∀ h' x tk, P i x → IsEnumOut h' e it ((i : Int) + 1) x s.heap.objs.size → st (i + 1) h' → h'.get? s.heap.objs.size = some { cls := .type "tuple", data := .seq #[.int i tk, x] } →
      (∀ c o, c ≠ e → c ≠ it → s.heap.get? c = some o → h'.get? c = some o) → Q (.ref s.heap.objs.size) { s with heap := h', toks := s.toks + 1 }) :
    wpAny (model prog w) A (Builtin.«enumerate.__next__» ⟨[.ref e], []⟩) (fun fin s' => ∃ v, fin = .done (.ret v) ∧ Q v s') E s := by
  refine wpAny_bind (m := field (.ref e) 2) (wpAny_field he rfl (x := .ref it) rfl ?_)
  refine wpAny_bind (m := Builtin.SmallTypes.nextOf (.ref it)) (S.item _ i _ _ _ hi h1 fun x g1 px t1 b1 => ?_)
  have e1 : IsEnum g1 e it i old := b1.extBut _ _ hei he
  refine wpAny_bind (m := field (.ref e) 3) (wpAny_field e1 rfl (x := rawInt i) rfl ?_)
  refine wpAny_bind (m := field (.ref e) 4) (wpAny_field e1 rfl (x := .none) rfl ?_)
  refine wpAny_bind (m := mkInt i) (wpAny_mkInt ?_)
  refine wpAny_bind (m := setField (.ref e) 3 (rawInt ((i : Int) + 1))) (wpAny_setField_rec e1 (by simp) fun g2 e2 b2 => ?_)
  have e2' : IsEnum g2 e it ((i : Int) + 1) old := e2
  refine wpAny_bind (m := setField (.ref e) 4 .none) (wpAny_setField_rec e2' (by simp) fun g3 e3 b3 => ?_)
  have e3' : IsEnum g3 e it ((i : Int) + 1) old := e3
  refine wpAny_bind (m := newTuple [.int i s.toks, x]) (wpAny_newTuple ?_)
  have sz : g3.objs.size = s.heap.objs.size := by rw [b3.1, b2.1, b1.1]
  have e4 : IsEnum (g3.push { cls := .type "tuple", data := .seq #[.int i s.toks, x] }) e it ((i : Int) + 1) old := Heap.get?_push_of_some _ e3'
  have T4 : (g3.push { cls := .type "tuple", data := .seq #[.int i s.toks, x] }).get? s.heap.objs.size = some { cls := .type "tuple", data := .seq #[.int i s.toks, x] } := by rw [← sz]; exact Heap.get?_push_size _ rfl
  have kp4 : ∀ c o, c ≠ e → c ≠ it → s.heap.get? c = some o → (g3.push { cls := .type "tuple", data := .seq #[.int i s.toks, x] }).get? c = some o := fun c o c1 c2 q =>
    Heap.get?_push_of_some _ (b3.extBut _ _ c1 (b2.extBut _ _ c1 (b1.extBut _ _ c2 q)))
  have t4 : st (i + 1) (g3.push { cls := .type "tuple", data := .seq #[.int i s.toks, x] }) := S.keep _ _ _ t1 fun c hc o q => by
    have c1 : c ≠ e := by rcases hc with r | r <;> rw [r]; exact Ne.symm hei; exact hel
    exact Heap.get?_push_of_some _ (b3.extBut _ _ c1 (b2.extBut _ _ c1 q))
  have elt : s.heap.objs.size ≠ e := Nat.ne_of_gt (Heap.lt_size he)
  rw [sz]
  generalize g3.push { cls := .type "tuple", data := .seq #[.int i s.toks, x] } = g4 at e4 T4 kp4 t4 ⊢
  refine wpAny_bind (m := Builtin.SmallTypes.ownedTupleIsFree (.ref e)) ?_
  unfold Builtin.SmallTypes.ownedTupleIsFree
  refine wpAny_bind (wpAny_field e4 rfl (x := .none) rfl (wpAny_pure ?_))
  simp only [if_true]
  refine wpAny_bind (wpAny_rule ?_)
  refine wpAny_bind (wpAny_field e4 rfl (x := old) rfl ?_)
  refine wpAny_bind (wpAny_setField_rec e4 (by simp) fun g5 e5 b5 => ?_)
  have e5' : IsEnum g5 e it ((i : Int) + 1) x := e5
  refine wpAny_bind (m := Builtin.SmallTypes.ownedTupleHandOut (.ref e) (.ref s.heap.objs.size)) ?_
  unfold Builtin.SmallTypes.ownedTupleHandOut
  refine wpAny_bind (wpAny_setField_rec e5' (by simp) fun g6 e6 b6 => ?_)
  have e6' : IsEnumOut g6 e it ((i : Int) + 1) x s.heap.objs.size := e6
  refine wpAny_setField_rec e6' (by simp) fun g7 e7 b7 => ?_
  have e7' : IsEnumOut g7 e it ((i : Int) + 1) x s.heap.objs.size := e7
  have up : ∀ c o, c ≠ e → g4.get? c = some o → g7.get? c = some o := fun c o c1 q => b7.extBut _ _ c1 (b6.extBut _ _ c1 (b5.extBut _ _ c1 q))
  refine wpAny_bind (wpAny_letGo (wpAny_pure ⟨_, rfl, hQ g7 x s.toks px e7' ?_ (up _ _ elt T4) fun c o c1 c2 q => up c o c1 (kp4 c o c1 c2 q)⟩))
  exact S.keep _ _ _ t4 fun c hc o q => up c o (by rcases hc with r | r <;> rw [r]; exact Ne.symm hei; exact hel) q
theorem enumEnd {old : Value} {Q : Fin → Shared → Prop} (hh : A.handled = none) (S : Sub prog w it l n P st) (he : IsEnum s.heap e it n old) (h1 : st n s.heap)
    (hE : ∀ h' x, Heap.ExtBut it s.heap h' → (∃ o, h'.get? x = some o ∧ o.cls = .type "StopIteration") → E (.ref x) { s with heap := h' }) :
    wpAny (model prog w) A (Builtin.«enumerate.__next__» ⟨[.ref e], []⟩) Q E s := by
  refine wpAny_bind (m := field (.ref e) 2) (wpAny_field he rfl (x := .ref it) rfl ?_)
  exact wpAny_bind (m := Builtin.SmallTypes.nextOf (.ref it)) (S.done _ _ _ _ hh h1 hE)
end
def Ite (K : PySem.W.Frag) (k : Sk) (a : Addr) : It :=
  ⟨fun i H => ∃ xs x, SqK k K H a xs ∧ xs[i]? = some x,
   fun i H v H' => ∃ p, H p = none ∧ v = .ref p ∧ ∀ xs, SqK k K H a xs → ∃ x, xs[i]? = some x ∧ H' = upd H p (.tup [.int (i : Nat), x]),
   fun i H => ∃ xs, SqK k K H a xs ∧ xs.length = i⟩
theorem turn_enum {P : Program} {w : World} {K : PySem.W.Frag} {es : List Expr} {x1} {pos : Pos} (k : Sk) (a e it : Addr) (hei : e ≠ it) :
    Turn P w K (.Tuple es x1 pos) (Ite K k a) [e, it] e (fun i h => (∃ old, IsEnum h e it i old) ∧ ItK k h it a i) where
  mem := by simp
  obj := fun i h st c hc => by
    obtain ⟨⟨old, he⟩, h1⟩ := st
    simp only [List.mem_cons, List.not_mem_nil, or_false] at hc
    rcases hc with rfl | rfl
    · exact ⟨_, he, fun v q => by cases q⟩
    · exact h1.obj
  keep := fun i h h' st kp => by
    obtain ⟨⟨old, he⟩, h1⟩ := st
    exact ⟨⟨old, kp e (by simp) _ he⟩, h1.at fun o q => kp it (by simp) o q⟩
  item := by
    intro X hP hw hK hc i pins s σ H E I hf st hg
    subst hP hw hK
    obtain ⟨⟨old, he⟩, h1⟩ := st
    obtain ⟨xs, x, ha, hx⟩ := hg
    obtain ⟨its, rv, pa⟩ := I.seqK ha
    obtain ⟨u, hu, ru⟩ := rv.get hx
    have na : ∀ c ∈ [e, it], a ≠ c := fun c hc' => I.seq_ne ha (hf c hc')
    have hT : s.TypeIs (.ref e) "enumerate" := ⟨_, he, rfl⟩
    have hi1 : i < its.toArray.size := by rw [List.size_toArray]; exact (List.getElem?_eq_some_iff.mp hu).1
    unfold pyNext
    refine wpAny_bind (wpAny_attempt (wpAny_callSpecial?_slot (name := Str.ofString "__next__") hT PySem.F.slot_enumerate_next (wpAny_call_entry PySem.F.slot_enumerate_next hT PySem.F.entry_enumerate_next
      (enumItem (subK k X.prog X.w it a its.toArray (na it (by simp))) hei (na e (by simp)) he ⟨h1, pa⟩ hi1 fun h' u' tk pu he' s1 hT' kp => wpAny_pure ?_) (PySem.F.args_enumerate_next_1 _))))
    have eu : u' = u := by
      have q : its[i]? = some u' := by simpa using pu
      rw [hu] at q
      exact (Option.some.inj q).symm
    subst eu
    refine ⟨_, rfl, wpAny_letOwnedTupleGo_enum he' fun h2 he2 sb2 => ?_⟩
    have Te : s.heap.objs.size ≠ e := Nat.ne_of_gt (Heap.lt_size he)
    have hT2 : h2.get? s.heap.objs.size = some { cls := .type "tuple", data := .seq #[.int i tk, u'] } := sb2.extBut _ _ Te hT'
    have hf0 := I.hok.fresh (Nat.le_refl s.heap.objs.size)
    have fz := I.fpOk (Nat.le_refl s.heap.objs.size) hf0
    have I2 : Inv X pins σ H { s with heap := h2, toks := s.toks + 1 } := by
      refine I.turnedL (t' := s.toks + 1) [e, it] (fun c o hc' q => ?_) hf
      simp only [List.mem_cons, List.not_mem_nil, or_false, not_or] at hc'
      exact sb2.extBut _ _ hc'.1 (kp c o hc'.1 hc'.2 q)
    have I3 : Inv X pins σ (upd H s.heap.objs.size (.tup [.int (i : Nat), x])) { s with heap := h2, toks := s.toks + 1 } := by
      refine I2.trackO (show ObjOk X.prog X.w _ _ _ (.tup [.int (i : Nat), x]) from ⟨by show 2 ≤ sizeLine; rw [sizeLine_eq]; decide, [.int i tk, u'], 0, .cons ⟨tk, rfl⟩ (.cons ru .nil), hT2⟩) hf0 fz.2.1 I.sz fz.2.2.2.2.1 fz.2.2.2.2.2
    refine ⟨.ref s.heap.objs.size, _, I3, rfl, ⟨s.heap.objs.size, hf0, rfl, fun xs' ha' => ?_⟩, ⟨⟨_, by simpa using he2⟩, s1.1.at fun o q => sb2.extBut _ _ (Ne.symm hei) q⟩, fun c hc' => ?_⟩
    · rw [I.seqK_inj ha' ha]
      exact ⟨x, hx, rfl⟩
    · have cl : c ≠ s.heap.objs.size := by
        obtain ⟨o, q⟩ : ∃ o, s.heap.get? c = some o := by
          simp only [List.mem_cons, List.not_mem_nil, or_false] at hc'
          rcases hc' with rfl | rfl
          · exact ⟨_, he⟩
          · obtain ⟨o, q, _⟩ := h1.obj; exact ⟨o, q⟩
        exact Nat.ne_of_lt (Heap.lt_size q)
      rw [upd_ne cl]
      exact (hf c hc').1
  done := by
    intro X hP hw hK hc i pins s σ H E I hf st hg
    subst hP hw hK
    obtain ⟨⟨old, he⟩, h1⟩ := st
    obtain ⟨xs, ha, hlen⟩ := hg
    obtain ⟨its, rv, pa⟩ := I.seqK ha
    have la := rv.length
    have na : ∀ c ∈ [e, it], a ≠ c := fun c hc' => I.seq_ne ha (hf c hc')
    have hT : s.TypeIs (.ref e) "enumerate" := ⟨_, he, rfl⟩
    have ei : i = its.toArray.size := by rw [List.size_toArray]; omega
    subst ei
    unfold pyNext
    refine wpAny_bind (wpAny_attempt (wpAny_callSpecial?_slot (name := Str.ofString "__next__") hT PySem.F.slot_enumerate_next (wpAny_call_entry PySem.F.slot_enumerate_next hT PySem.F.entry_enumerate_next
      (enumEnd (I.ok.hd hc) (subK k X.prog X.w it a its.toArray (na it (by simp))) he ⟨h1, pa⟩ fun h' x kp hx => ?_) (PySem.F.args_enumerate_next_1 _))))
    obtain ⟨oe, hoe, hce⟩ := hx
    refine wpAny_bind (wpAny_isInstance (T := "StopIteration") (b := true) ⟨oe, hoe, hce⟩ isSubtype_stop (wpAny_pure ⟨rfl, ?_⟩))
    refine I.turnedL (t' := s.toks) [e, it] (fun c o hc' q => ?_) hf
    simp only [List.mem_cons, List.not_mem_nil, or_false, not_or] at hc'
    exact kp c o hc'.2 q
  self := fun _ _ _ _ _ st h => by
    obtain ⟨⟨old, he⟩, _⟩ := st
    exact wpAny_pyIter_enum he h
theorem enum_made (k : Sk) (a : Addr) (xs : Array Value) :
    Meets (Builtin.«enumerate.__new__» ⟨[.type "enumerate", .ref a], []⟩) (fun _ R s => AtK k s.heap a xs ∧
      R (.ok (.ret (.ref (s.heap.push (itK k a)).objs.size))) { s with heap := (s.heap.push (itK k a)).push { cls := .type "enumerate", data := .fields #[.none, .bool false, .ref s.heap.objs.size, rawInt 0, .none, .none] } }) :=
  .of_wp fun prog w A R s h => by
    obtain ⟨hp, g, d, tk, os⟩ := s
    obtain ⟨hl, h⟩ := h
    have hsub := sub_enumerate
    have hA : AtK k (Shared.heap ⟨hp, g, d, tk, os⟩) a xs := hl
    obtain ⟨o, ho, hc⟩ : ∃ o, hp.get? a = some o ∧ (o.cls = .type "list" ∨ o.cls = .type "tuple") := by
      cases k
      · obtain ⟨o, e, c, _⟩ := hl; exact ⟨o, e, .inl c⟩
      · obtain ⟨o, e, c, _⟩ := hl; exact ⟨o, e, .inr c⟩
    have hoL : (Shared.heap ⟨hp, g, d, tk, os⟩).get? a = some o := ho
    wp_walk using AutoSeq1.wpAny_loadPart' hoL
    refine wpAny_stack_any fun st => wpAny_pure ?_
    split
    · rename_i c _ _ _ _ _
      cases (c == Value.type "enumerate")
      · wp_walk using AutoSeq1.wpAny_loadPart' hoL, iterK hA
        exact ⟨_, rfl, h⟩
      · wp_walk using AutoSeq1.wpAny_loadPart' hoL, iterK hA
        exact ⟨_, rfl, h⟩
    · wp_walk using AutoSeq1.wpAny_loadPart' hoL, iterK hA
      exact ⟨_, rfl, h⟩
section
variable {X : Cx} {es : List Expr} {x1 : Nat} {tpos : Pos}
def iEnum (K : PySem.W.Frag) (k : Sk) (ta : TA) : TI := fun σ H R => ta σ H fun vs H1 => ∃ a xs, vs = [.ref a] ∧ SqK k K H1 a xs ∧ R (Ite K k a) H1
theorem pi_enum (k : Sk) {a : Expr} {ta : TA} {p pos : Pos} (hg : Gl X "enumerate") (hm : X.mg "enumerate" = none) (ha : PA X [a] ta) (hs : starEach [a] X.env = [(false, eval a X.env)] := by rfl) :
    PI X (.Tuple es x1 tpos) (.Call (.Name "enumerate" p) [a] [] pos) (iEnum X.K k ta) := by
  intro pins s σ H R I h
  refine Call_ (ld_blt (u := .type "enumerate") I hg hm (by decide +kernel) (PyProof.Rows.callWith_type1 (thn (ha pos pins s σ H _ I h) fun us s1 hx9 => ?_) hs rfl))
  obtain ⟨vs, H1, I1, r1, q1⟩ := hx9
  obtain ⟨l, xs, rfl, hA, q⟩ := q1
  obtain ⟨u1, rfl, r1'⟩ := vals1 r1
  cases r1'
  obtain ⟨its, rv, pa⟩ := I1.seqK hA
  refine callType_new PySem.F.called_enumerate (by decide) (PySem.F.typeCall_enumerate_1 _) (PySem.F.newCall_enumerate_1 _) (fun obj => PySem.F.args_object_init_2 obj _) PySem.F.entry_enumerate_new (enum_made k l its.toArray) ⟨pa, ?_⟩
  have n1 : (s1.heap.push (itK k l)).objs.size = s1.heap.objs.size + 1 := Heap.size_push ..
  have g2 : IsEnum ((s1.heap.push (itK k l)).push { cls := .type "enumerate", data := .fields #[.none, .bool false, .ref s1.heap.objs.size, rawInt 0, .none, .none] }) (s1.heap.push (itK k l)).objs.size s1.heap.objs.size 0 .none := Heap.get?_push_size _ rfl
  have g1 : ItK k ((s1.heap.push (itK k l)).push { cls := .type "enumerate", data := .fields #[.none, .bool false, .ref s1.heap.objs.size, rawInt 0, .none, .none] }) s1.heap.objs.size l 0 := (ItK.new k s1.heap l).at fun o e => Heap.get?_push_of_some _ e
  have kp : ∀ c o, s1.heap.get? c = some o → ((s1.heap.push (itK k l)).push { cls := .type "enumerate", data := .fields #[.none, .bool false, .ref s1.heap.objs.size, rawInt 0, .none, .none] }).get? c = some o := fun c o e => Heap.get?_push_of_some _ (Heap.get?_push_of_some _ e)
  generalize (s1.heap.push (itK k l)).push { cls := .type "enumerate", data := .fields #[.none, .bool false, .ref s1.heap.objs.size, rawInt 0, .none, .none] } = h2 at g1 g2 kp ⊢
  refine ⟨⟨_, g2, rfl⟩, wpAny_pyIter_enum g2 ?_⟩
  rw [n1] at *
  have I2 : Inv X pins σ H1 { s1 with heap := h2 } := I1.kept (t' := s1.toks) kp
  refine ⟨s1.heap.objs.size + 1, [s1.heap.objs.size + 1, s1.heap.objs.size], _, _, H1, rfl, I2, turn_enum k l (s1.heap.objs.size + 1) s1.heap.objs.size (Nat.succ_ne_self _), ⟨⟨_, g2⟩, g1⟩, fun c hc => ?_, q⟩
  have hc' : s1.heap.objs.size ≤ c := by
    simp only [List.mem_cons, List.not_mem_nil, or_false] at hc
    rcases hc with r | r
    · rw [r]; exact Nat.le_add_right _ _
    · rw [r]; exact Nat.le_refl _
  exact I1.fpOk hc' (I1.hok.fresh hc')
end
theorem for_enum {K : PySem.W.Frag} {k : Sk} {a : Addr} {xs : List V} {g : TG} {tb : TS} {D : Ends} {σ : St} {H : Hp} (Pv : Nat → St → Hp → Prop) (h0 : Pv 0 σ H) (hl : ∀ i σ H, i ≤ xs.length → Pv i σ H → SqK k K H a xs)
    (hs : ∀ i x p σ H, xs[i]? = some x → Pv i σ H → H p = none → g (.ref p) σ (upd H p (.tup [.int (i : Nat), x])) fun σ2 H2 => tb { D with nx := Pv (i + 1), ct := Pv (i + 1), bk := D.nx } σ2 H2) (hd : ∀ σ H, Pv xs.length σ H → D.nx σ H) :
    ∃ W : Nat → Nat → St → Hp → Prop, (∃ m, W 0 m σ H) ∧ ∀ i m σ H, W i m σ H →
      ((Ite K k a).stop i H ∧ D.nx σ H) ∨ ((Ite K k a).go i H ∧ ∃ N : St → Hp → Prop, (∀ σ' H', N σ' H' → ∃ m', m' < m ∧ W (i + 1) m' σ' H') ∧ ∀ x H', (Ite K k a).yld i H x H' → g x σ H' fun σ2 H2 => tb { D with nx := N, ct := N, bk := D.nx } σ2 H2) := by
  refine ⟨fun i m σ H => m = xs.length - i ∧ i ≤ xs.length ∧ Pv i σ H, ⟨xs.length, by simp, Nat.zero_le _, h0⟩, ?_⟩
  rintro i m σ H ⟨rfl, hi, p⟩
  have q := hl i σ H hi p
  by_cases hlt : i < xs.length
  · refine .inr ⟨⟨xs, xs[i], q, List.getElem?_eq_getElem hlt⟩, Pv (i + 1), fun σ' H' p' => ⟨xs.length - (i + 1), by omega, rfl, hlt, p'⟩, fun x H' y => ?_⟩
    obtain ⟨p1, hp1, rfl, y⟩ := y
    obtain ⟨v, hv, rfl⟩ := y xs q
    exact hs i v p1 σ H hv p hp1
  · have e : i = xs.length := by omega
    subst e
    exact .inl ⟨⟨xs, q, rfl⟩, hd σ H p⟩
end L2
set_option Elab.async false
set_option linter.all false
set_option maxRecDepth 100000
namespace L2
open PySem PySem.Spec PyProof.Rows
theorem le1000 {n : Nat} (h : n ≤ 1000) : n ≤ sizeLine := by rw [sizeLine_eq]; omega
section
variable {own : Nat} {fr : List Nat} {g : TG} {te : TE} {σ : St} {H : Hp} {Qf : Hp → List V → Prop} {K : PySem.W.Frag}
theorem take_at {vs : List V} {i : Nat} {v : V} (h : vs[i]? = some v) : vs.take (i + 1) = vs.take i ++ [v] := by rw [List.take_succ, h]; rfl
theorem comp_fn {J : It} {n : Nat} {vs : List V} (SH : St → Prop) (hn : n ≤ 1000) (hl : vs.length = n) (hσ : SH (blk own fr σ)) (hstop : ∀ H', Same H H' → J.stop n H') (hgo : ∀ i H', i < n → Same H H' → J.go i H')
    (hs : ∀ i v x σ H1 H2, i < n → vs[i]? = some v → SH σ → Same H H1 → J.yld i H1 x H2 → ∀ Q : V → St → Hp → Prop, (∀ σ2 H4, SH σ2 → Same H1 H4 → Q v σ2 H4) → g x σ H2 fun σ2 H3 => te σ2 H3 fun y H4 => Q y σ2 H4)
    (hd : ∀ H', Same H H' → Qf H' vs) :
    ∃ W : Nat → Nat → List V → St → Hp → Prop, (∃ m, W 0 m [] (blk own fr σ) H) ∧ ∀ i m ys σ' H, W i m ys σ' H →
      (J.stop i H ∧ Qf H ys) ∨
      (J.go i H ∧ ∃ N : List V → St → Hp → Prop, (∀ ys' σ2 H2, N ys' σ2 H2 → ∃ m', m' < m ∧ W (i + 1) m' ys' σ2 H2) ∧
        ∀ x H', J.yld i H x H' → g x σ' H' fun σ2 H2 => tAll σ2 H2 fun b H3 => if b = true then te σ2 H3 fun y H4 => ys.length < sizeLine ∧ N (ys ++ [y]) σ2 H4 else N ys σ2 H3) := by
  refine comp_it n (le1000 hn) SH (fun i ys H' => ys = vs.take i ∧ Same H H') hσ ⟨rfl, Same.refl H⟩ (fun i ys H' p => by rw [p.1, List.length_take]; omega) (fun ys H' p => hstop H' p.2) (fun i ys H' hi p => hgo i H' hi p.2) ?_ (fun ys H' p => ?_)
  · rintro i ys σ' x H1 H2 hi sh ⟨rfl, s1⟩ hy hz
    have hv : vs[i]? = some vs[i] := List.getElem?_eq_getElem (by omega)
    have h := hs i vs[i] x σ' H1 H2 hi hv sh s1 hy (fun y σ2 H4 => (vs.take i).length < sizeLine ∧ SH σ2 ∧ (vs.take i ++ [y] = vs.take (i + 1) ∧ Same H H4)) fun σ2 H4 sh2 s4 => ⟨hz, sh2, (take_at hv).symm, s1.trans s4⟩
    exact h
  · obtain ⟨rfl, s1⟩ := p
    rw [List.take_of_length_le (by omega)]
    exact hd H' s1
theorem comp_fnL {a : Addr} {xs vs : List V} (SH : St → Prop) (hn : xs.length ≤ 1000) (hl : vs.length = xs.length) (ha : SqL K H a xs) (hσ : SH (blk own fr σ))
    (hs : ∀ (i : Nat) x v σ H1, xs[i]? = some x → vs[i]? = some v → SH σ → Same H H1 → ∀ Q : V → St → Hp → Prop, (∀ σ2 H4, SH σ2 → Same H1 H4 → Q v σ2 H4) → g x σ H1 fun σ2 H2 => te σ2 H2 fun y H4 => Q y σ2 H4)
    (hd : ∀ H', Same H H' → Qf H' vs) :
    ∃ W : Nat → Nat → List V → St → Hp → Prop, (∃ m, W 0 m [] (blk own fr σ) H) ∧ ∀ i m ys σ' H, W i m ys σ' H →
      ((Itl K a).stop i H ∧ Qf H ys) ∨
      ((Itl K a).go i H ∧ ∃ N : List V → St → Hp → Prop, (∀ ys' σ2 H2, N ys' σ2 H2 → ∃ m', m' < m ∧ W (i + 1) m' ys' σ2 H2) ∧
        ∀ x H', (Itl K a).yld i H x H' → g x σ' H' fun σ2 H2 => tAll σ2 H2 fun b H3 => if b = true then te σ2 H3 fun y H4 => ys.length < sizeLine ∧ N (ys ++ [y]) σ2 H4 else N ys σ2 H3) := by
  refine comp_fn SH hn hl hσ (fun H' s => ⟨xs, s.seqL ha, Nat.le_refl _⟩) (fun i H' hi s => ⟨xs, xs[i], s.seqL ha, List.getElem?_eq_getElem hi⟩) (fun i v x σ H1 H2 hi hv sh s y Q k => ?_) hd
  obtain ⟨e, y⟩ := y
  subst e
  exact hs i x v σ _ (y xs (s.seqL ha)) hv sh s Q k
theorem comp_fnT {a : Addr} {xs vs : List V} (SH : St → Prop) (hn : xs.length ≤ 1000) (hl : vs.length = xs.length) (ha : SqT K H a xs) (hσ : SH (blk own fr σ))
    (hs : ∀ (i : Nat) x v σ H1, xs[i]? = some x → vs[i]? = some v → SH σ → Same H H1 → ∀ Q : V → St → Hp → Prop, (∀ σ2 H4, SH σ2 → Same H1 H4 → Q v σ2 H4) → g x σ H1 fun σ2 H2 => te σ2 H2 fun y H4 => Q y σ2 H4)
    (hd : ∀ H', Same H H' → Qf H' vs) :
    ∃ W : Nat → Nat → List V → St → Hp → Prop, (∃ m, W 0 m [] (blk own fr σ) H) ∧ ∀ i m ys σ' H, W i m ys σ' H →
      ((Itt K a).stop i H ∧ Qf H ys) ∨
      ((Itt K a).go i H ∧ ∃ N : List V → St → Hp → Prop, (∀ ys' σ2 H2, N ys' σ2 H2 → ∃ m', m' < m ∧ W (i + 1) m' ys' σ2 H2) ∧
        ∀ x H', (Itt K a).yld i H x H' → g x σ' H' fun σ2 H2 => tAll σ2 H2 fun b H3 => if b = true then te σ2 H3 fun y H4 => ys.length < sizeLine ∧ N (ys ++ [y]) σ2 H4 else N ys σ2 H3) := by
  refine comp_fn SH hn hl hσ (fun H' s => ⟨xs, s.seqT ha, Nat.le_refl _⟩) (fun i H' hi s => ⟨xs, xs[i], s.seqT ha, List.getElem?_eq_getElem hi⟩) (fun i v x σ H1 H2 hi hv sh s y Q k => ?_) hd
  obtain ⟨e, y⟩ := y
  subst e
  exact hs i x v σ _ (y xs (s.seqT ha)) hv sh s Q k
theorem comp_fnZ {k1 k2 : Sk} {a b : Addr} {xs zs vs : List V} (SH : St → Prop) (hn : xs.length ≤ 1000) (hle : xs.length ≤ zs.length) (hl : vs.length = xs.length) (ha : ∀ H', Same H H' → SqK k1 K H' a xs ∧ SqK k2 K H' b zs) (hσ : SH (blk own fr σ))
    (hs : ∀ (i : Nat) x z v p σ H1, xs[i]? = some x → zs[i]? = some z → vs[i]? = some v → H1 p = none → SH σ → Same H H1 → ∀ Q : V → St → Hp → Prop, (∀ σ2 H4, SH σ2 → Same H1 H4 → Q v σ2 H4) → g (.ref p) σ (upd H1 p (.tup [x, z])) fun σ2 H2 => te σ2 H2 fun y H4 => Q y σ2 H4)
    (hd : ∀ H', Same H H' → Qf H' vs) :
    ∃ W : Nat → Nat → List V → St → Hp → Prop, (∃ m, W 0 m [] (blk own fr σ) H) ∧ ∀ i m ys σ' H, W i m ys σ' H →
      ((Itz K k1 k2 a b).stop i H ∧ Qf H ys) ∨
      ((Itz K k1 k2 a b).go i H ∧ ∃ N : List V → St → Hp → Prop, (∀ ys' σ2 H2, N ys' σ2 H2 → ∃ m', m' < m ∧ W (i + 1) m' ys' σ2 H2) ∧
        ∀ x H', (Itz K k1 k2 a b).yld i H x H' → g x σ' H' fun σ2 H2 => tAll σ2 H2 fun b H3 => if b = true then te σ2 H3 fun y H4 => ys.length < sizeLine ∧ N (ys ++ [y]) σ2 H4 else N ys σ2 H3) := by
  refine comp_fn SH hn hl hσ (fun H' s => ⟨xs, zs, (ha H' s).1, (ha H' s).2, by omega⟩) (fun i H' hi s => ⟨xs, zs, xs[i], zs[i]'(by omega), (ha H' s).1, (ha H' s).2, List.getElem?_eq_getElem hi, List.getElem?_eq_getElem (by omega)⟩) (fun i v x σ H1 H2 hi hv sh s y Q k => ?_) hd
  obtain ⟨q, hq, rfl, hy⟩ := y
  obtain ⟨x, z, h1, h2, rfl⟩ := hy xs zs (ha H1 s).1 (ha H1 s).2
  exact hs i x z v q σ H1 h1 h2 hv hq sh s Q k
end
end L2
set_option Elab.async false
set_option linter.all false
set_option maxRecDepth 100000
namespace L2
open PySem PySem.Spec PyProof.Rows
section
variable {X : Cx} {st : Stmt} {rest : List Stmt} {t u : TS} {e : Expr} {te : TE} {tt : TT}
def tMid (t u : TS) : TS := fun D σ H => ∃ M : St → Hp → Prop, t { D with nx := M } σ H ∧ ∀ σ' H', M σ' H' → u D σ' H'
theorem pss_mid (h1 : PS X st t) (h2 : PSs X rest u) : PSs X (st :: rest) (tMid t u) := by
  intro pins s σ H D I h
  obtain ⟨M, h, k⟩ := h
  refine wpAny_execs_cons (thn (h1 pins s σ H { D with nx := M } I h) fun f s1 q => ?_)
  cases f with
  | next =>
    obtain ⟨σ', H', I', q⟩ := q
    exact h2 pins s1 σ' H' D I' (k σ' H' q)
  | ret v => exact q
  | brk => exact q
  | cont => exact q
end
section
variable {X : Cx} {K : PySem.W.Frag}
theorem ix_listK (hK : X.K = K) : IxR X (rIxL K) := by subst hK; exact ix_list
theorem op_notIn_seqK (hK : X.K = K) : OpR X (compareOp .NotIn) (rIn K true) := by subst hK; exact op_notIn_seq
theorem pi_listK {tg l : Expr} {tl : TE} (hK : X.K = K) (hl : PE X l tl) : PI X tg l (iList K tl) := by subst hK; exact pi_list hl
end
end L2
set_option Elab.async false
set_option linter.all false
set_option maxRecDepth 100000
namespace L2
open PySem PySem.Spec PyProof.Rows
theorem slicePick_rev (xs : Array Value) : slicePick xs none none (some (-1)) = xs.toList.reverse.toArray := by
  unfold slicePick
  have e1 : sliceBounds none none (some (-1)) xs.size = ((xs.size : Int) - 1, -1, -1) := by simp [sliceBounds]
  rw [e1, ← pick_rev xs]
  congr 1
  show List.filterMap (fun x => xs[x]?) (sliceRange ((xs.size : Int) - 1) (-1) (-1)) = _
  have e2 : sliceRange ((xs.size : Int) - 1) (-1) (-1) = (List.range xs.size).map fun (k : Nat) => ((xs.size : Int) - 1 + (k : Int) * (-1)).toNat := by
    unfold sliceRange
    rw [if_neg (by decide)]
    have e3 : (if (xs.size : Int) - 1 > -1 then ((xs.size : Int) - 1 - -1 - -1 - 1) / (- -1) else 0).toNat = xs.size := by
      by_cases h0 : xs.size = 0
      · rw [h0]; decide
      · rw [if_pos (by omega), show (- -1 : Int) = 1 from rfl, Int.ediv_one]; omega
    show (List.range (if (xs.size : Int) - 1 > -1 then ((xs.size : Int) - 1 - -1 - -1 - 1) / (- -1) else 0).toNat).map _ = _
    rw [e3]
    refine List.map_congr_left fun k _ => ?_
    congr 1
    omega
  rw [e2, List.filterMap_map]
  rfl
section
variable {X : Cx}
def tRevL (K : PySem.W.Frag) (te ts : TE) : TE := fun σ H Q => te σ H fun x H1 => ts σ H1 fun y H2 => y = .int (-1) ∧ ∃ a xs, x = .ref a ∧ SqL K H2 a xs ∧ ∀ p, H2 p = none → Q (.ref p) (upd H2 p (.lst xs.reverse))
theorem pe_revL {e st : Expr} {te ts : TE} {pos p2 : Pos} (he : PE X e te) (hst : PE X st ts) : PE X (.Subscript e (.Slice none none (some st) p2) pos) (tRevL X.K te ts) := by
  intro pins s σ H Q I h
  refine Subscript_ (thn (he pins s σ H _ I h) fun v s1 hx9 => ?_)
  obtain ⟨x, H1, I1, r1, q1⟩ := hx9
  refine wpAny_Slice ?_
  rw [evalPart_none]
  refine wpAny_pure ?_
  show wpAny _ _ (evalPart none X.env) _ _ s1
  rw [evalPart_none]
  refine wpAny_pure ?_
  show wpAny _ _ (evalPart (some st) X.env) _ _ s1
  rw [evalPart_some]
  refine thn (hst pins s1 σ H1 _ I1 q1) fun vst s3 hx9 => ?_
  obtain ⟨y, H3, I3, r3, q3⟩ := hx9
  obtain ⟨rfl, a, xs, rfl, hx, q⟩ := q3
  obtain ⟨tk, rfl⟩ := r3
  cases r1
  have I4 : Inv X pins σ H3 { s3 with heap := s3.heap.push { cls := .type "slice", data := .fields #[.none, .none, .int (-1) tk] } } := I3.kept (t' := s3.toks) fun b ob q => Heap.get?_push_of_some _ q
  obtain ⟨its, r, ht, hz⟩ := I4.list hx
  have hlen := r.length
  have hg : wpAny (model X.prog X.w) X.A (getItem (.ref a) (.ref s3.heap.objs.size)) (EP X pins σ Q) X.xe { s3 with heap := s3.heap.push { cls := .type "slice", data := .fields #[.none, .none, .int (-1) tk] } } := by
    refine wpAny_getItem_list_slice ht.isList (Heap.IsSliceOf.new ..) .none .none (.int (-1) tk) (by decide) ?_ (by rw [List.size_toArray]; omega)
    rw [slicePick_rev]
    refine ⟨.ref _, _, I4.laid (t' := s3.toks) (o := .lst xs.reverse) (fun b ob q => Heap.get?_push_of_some _ q) (Nat.le_refl _) ?_, rfl, q _ (I4.hok.fresh (Nat.le_refl _))⟩
    exact ⟨by rw [List.length_reverse]; exact hz, its.reverse, 0, r.reverse, Heap.get?_push_size _ rfl⟩
  show wpAny (model X.prog X.w) X.A (subscriptTail e (.Slice none none (some st) p2) (.ref a) (.ref s3.heap.objs.size)) (EP X pins σ Q) X.xe { s3 with heap := s3.heap.push { cls := .type "slice", data := .fields #[.none, .none, .int (-1) tk] } }
  exact tail_any (ops := [.ref a, .ref s3.heap.objs.size]) ht.isList.typeIs slot_list_getitem.lookup hg (by with_unfolding_all rfl)
end
section
variable {K : PySem.W.Frag} {S : List Addr} {H H' H0 : Hp} {E E' : Hp → V → Prop} {σ : St} {te ta tb ts : TE} {t tr : TA} {tl th : TO}
instance {a : Addr} {xs : List V} : Mo (fun H v => v = .ref a ∧ SqT K (Vw S H) a xs) := ⟨fun e h => ⟨h.1, (Vw.same e).seqT h.2⟩⟩
end
end L2
set_option Elab.async false
set_option linter.all false
set_option maxRecDepth 100000
namespace L2
open PySem PySem.Spec PyProof.Rows
section
variable {prog : Program} {w : World} {A : Around} {R : Result → Shared → Prop} {s : Shared} {elt tg iter tg2 iter2 : Expr} {scope : Scope} {pos : Pos} {it acc : Value} {env : Env}
theorem compTurn_two0 : compTurn (.ListComp elt [⟨tg, iter, [], 0⟩, ⟨tg2, iter2, [], 0⟩] scope pos) 0 it acc env = (standAt iter.pos >>= fun _ => pyNext it >>= fun r => match r with
      | none => pure (.done .next)
      | some v => letOwnedTupleGo tg it v >>= fun _ => assign tg env v >>= fun _ =>
        (eval iter2 env >>= fun x => standAt iter2.pos >>= fun _ => foldedSetIterable iter2 env x >>= fun x => holding [x] (pyIter x) >>= fun i =>
          runOwn (.compStart (.ListComp elt [⟨tg, iter, [], 0⟩, ⟨tg2, iter2, [], 0⟩] scope pos) 1 i acc env) env >>= fun _ =>
          again (.compLoop (.ListComp elt [⟨tg, iter, [], 0⟩, ⟨tg2, iter2, [], 0⟩] scope pos) 0 it acc env))) := by rfl
theorem compTurn_two1 : compTurn (.ListComp elt [⟨tg, iter, [], 0⟩, ⟨tg2, iter2, [], 0⟩] scope pos) 1 it acc env = (standAt iter2.pos >>= fun _ => pyNext it >>= fun r => match r with
      | none => pure (.done .next)
      | some v => letOwnedTupleGo tg2 it v >>= fun _ => assign tg2 env v >>= fun _ =>
        (eval elt env >>= fun x => call (.builtin "list.append") [acc, x] >>= fun _ => pure ()) >>= fun _ =>
          again (.compLoop (.ListComp elt [⟨tg, iter, [], 0⟩, ⟨tg2, iter2, [], 0⟩] scope pos) 1 it acc env)) := by rfl
theorem codeAny_compStart_two
    (h0 : codeAny (model prog w) A (.compLoop (.ListComp elt [⟨tg, iter, [], 0⟩, ⟨tg2, iter2, [], 0⟩] scope pos) 1 it acc env) R s)
    (h : wpAny (model prog w) A (pyIter it) (fun it' s' => codeAny (model prog w) A (.compLoop (.ListComp elt [⟨tg, iter, [], 0⟩, ⟨tg2, iter2, [], 0⟩] scope pos) 1 it' acc env) R s')
      (notedBy (model prog w) A env fun x s' => R (.error x) s') s) :
    codeAny (model prog w) A (.compStart (.ListComp elt [⟨tg, iter, [], 0⟩, ⟨tg2, iter2, [], 0⟩] scope pos) 1 it acc env) R s := by
  refine codeAny_of_tree ?_
  show wpAny _ _ ((compStart (.ListComp elt [⟨tg, iter, [], 0⟩, ⟨tg2, iter2, [], 0⟩] scope pos) 1 it acc env).onRaise (fun x => do noteFrame x env; standAt theWindowsPlace)) _ _ s
  refine wpAny_notedAt ?_
  unfold compStart
  show wpAny _ _ (ask >>= _) _ _ s
  refine wpAny_bind (wpAny_askSetting (wpAny_ite ?_))
  split
  · first
      | exact wpAny_bind (wpAny_pure (wpAny_pure (And.intro rfl h0)))
      | exact wpAny_pure (And.intro rfl h0)
  · first
      | exact wpAny_bind (wpAny_rule (wpAny_bind (wpAny_standAt (wpAny_bind (wpAny_mono h (fun it' s' h' => wpAny_pure (And.intro rfl h')) fun _ _ x => x)))))
      | (refine wpAny_bind (wpAny_rule ?_); show wpAny _ _ (standAt iter2.pos >>= _) _ _ s; exact wpAny_bind (wpAny_standAt (wpAny_bind (wpAny_mono h (fun it' s' h' => wpAny_pure (And.intro rfl h')) fun _ _ x => x))))
theorem compLoop_in (I : Nat → Shared → Prop)
    (turn : ∀ n s, I n s → wpAny (model prog w) A (pyNext it) (fun r s₁ => match r with
      | none => R (.ok .next) s₁
      | some v => wpAny (model prog w) A (letOwnedTupleGo tg2 it v) (fun _ s₁' => wpAny (model prog w) A (assign tg2 env v) (fun _ s₂ =>
          wpAny (model prog w) A (eval elt env) (fun x s₄ =>
              wpAny (model prog w) A (call (.builtin "list.append") [acc, x]) (fun _ s₅ => ∃ m, m < n ∧ I m s₅) (fun _ _ => False) s₄) (fun _ _ => False) s₂) (fun _ _ => False) s₁') (fun _ _ => False) s₁) (fun _ _ => False) s)
    (n : Nat) (h : I n s) :
    codeAny (model prog w) A (.compLoop (.ListComp elt [⟨tg, iter, [], 0⟩, ⟨tg2, iter2, [], 0⟩] scope pos) 1 it acc env) R s := by
  refine codeAny_loop rfl I (fun n s hI => ?_) n h
  show wpAny _ A ((compTurn (.ListComp elt [⟨tg, iter, [], 0⟩, ⟨tg2, iter2, [], 0⟩] scope pos) 1 it acc env).onRaise (fun x => do noteFrame x env; theTreesLotGoes x)) _ _ s
  refine wpAny_noted ?_
  rw [compTurn_two1]
  refine wpAny_bind (wpAny_standAt (wpAny_bind (wpAny_mono (turn n s hI) (fun r s₁ h₁ => ?_) fun _ _ h' => h'.elim)))
  cases r with
  | none => exact wpAny_pure h₁
  | some v =>
    refine wpAny_bind (wpAny_mono h₁ (fun _ s₁' h₁' => ?_) fun _ _ h' => h'.elim)
    refine wpAny_bind (wpAny_mono h₁' (fun _ s₂ h₂ => ?_) fun _ _ h' => h'.elim)
    exact wpAny_bind (wpAny_bind (wpAny_mono h₂ (fun x s₄ h₄ => wpAny_bind (wpAny_mono h₄ (fun _ s₅ h₅ => wpAny_pure (wpAny_pure ⟨rfl, h₅⟩)) fun _ _ h' => h'.elim)) fun _ _ h' => h'.elim))
theorem compLoop_out (hs2 : ∀ x, foldedSetIterable iter2 env x = pure x) (I : Nat → Shared → Prop)
    (turn : ∀ n s, I n s → wpAny (model prog w) A (pyNext it) (fun r s₁ => match r with
      | none => R (.ok .next) s₁
      | some v => wpAny (model prog w) A (letOwnedTupleGo tg it v) (fun _ s₁' => wpAny (model prog w) A (assign tg env v) (fun _ s₂ =>
          wpAny (model prog w) A (eval iter2 env) (fun x s₃ => wpAny (model prog w) A (pyIter x) (fun i s₄ =>
              codeAny (model prog w) A (.compStart (.ListComp elt [⟨tg, iter, [], 0⟩, ⟨tg2, iter2, [], 0⟩] scope pos) 1 i acc env) (fun r s₅ => match r with
                | .ok _ => ∃ m, m < n ∧ I m s₅
                | .error _ => False) s₄) (fun _ _ => False) s₃) (fun _ _ => False) s₂) (fun _ _ => False) s₁') (fun _ _ => False) s₁) (fun _ _ => False) s)
    (n : Nat) (h : I n s) :
    codeAny (model prog w) A (.compLoop (.ListComp elt [⟨tg, iter, [], 0⟩, ⟨tg2, iter2, [], 0⟩] scope pos) 0 it acc env) R s := by
  refine codeAny_loop rfl I (fun n s hI => ?_) n h
  show wpAny _ A ((compTurn (.ListComp elt [⟨tg, iter, [], 0⟩, ⟨tg2, iter2, [], 0⟩] scope pos) 0 it acc env).onRaise (fun x => do noteFrame x env; theTreesLotGoes x)) _ _ s
  refine wpAny_noted ?_
  rw [compTurn_two0]
  refine wpAny_bind (wpAny_standAt (wpAny_bind (wpAny_mono (turn n s hI) (fun r s₁ h₁ => ?_) fun _ _ h' => h'.elim)))
  cases r with
  | none => exact wpAny_pure h₁
  | some v =>
    refine wpAny_bind (wpAny_mono h₁ (fun _ s₁' h₁' => ?_) fun _ _ h' => h'.elim)
    refine wpAny_bind (wpAny_mono h₁' (fun _ s₂ h₂ => ?_) fun _ _ h' => h'.elim)
    refine wpAny_bind (wpAny_mono h₂ (fun x s₃ h₃ => ?_) fun _ _ h' => h'.elim)
    refine wpAny_bind (wpAny_standAt (wpAny_bind (wpAny_of_eq (hs2 x) (wpAny_bind (wpAny_holding (wpAny_mono h₃ (fun i s₄ h₄ => ?_) fun _ _ h' => h'.elim))))))
    refine wpAny_bind (wpAny_runOwn (codeAny_mono h₄ fun r s₅ h₅ => ?_))
    cases r with
    | ok f => exact wpAny_pure ⟨rfl, h₅⟩
    | error e => exact False.elim h₅
end
end L2
set_option Elab.async false
set_option linter.all false
set_option maxRecDepth 100000
namespace L2
open PySem PySem.Spec PyProof.Rows
theorem comp_inner {Y : Cx} {elt tg iter tg2 iter2 : Expr} {scope : Scope} {pos : Pos} {it2 D : Addr} {fp2 : List Addr} {tn2 : Nat → Heap → Prop} {J2 : It} {g2 : TG} {te : TE} {ps : List (Addr × Obj)} {σ : St} {H : Hp} {s : Shared} {zs : List V} {its : Array Value} {o : Obj} {F : List V → St → Hp → Prop} {R : Result → Shared → Prop}
    (hx : ∀ v s', ¬ Y.xe v s') (hc : Y.calm = true) (T : Turn Y.prog Y.w Y.K tg2 J2 fp2 it2 tn2) (hg : PG Y tg2 g2) (he : PE Y elt te)
    (hDL : D ≠ Y.env.locals) (hD1 : D ∈ Y.ex ∨ Y.s₀.heap.objs.size ≤ D) (hDc : ∀ x c, Y.env.cells.lookup x = some c → c ≠ D) (hDp : ∀ p ∈ Y.pn, p.1 ≠ D) (hDfs : D ∉ Y.fs) (hps : ∀ p ∈ ps, p.1 ≠ D)
    (I0 : Inv Y ((D, o) :: ps) σ H s) (pl0 : s.heap.PlainList D its) (v0 : Vals zs its.toList) (z0 : zs.length ≤ sizeLine) (st0 : tn2 0 s.heap) (f0 : ∀ b ∈ fp2, FpOk Y ((D, o) :: ps) H b)
    (w : ∃ W2 : Nat → Nat → List V → St → Hp → Prop, (∃ m2, W2 0 m2 zs σ H) ∧ ∀ j m2 zs σ3 H4, W2 j m2 zs σ3 H4 → (J2.stop j H4 ∧ F zs σ3 H4) ∨ (J2.go j H4 ∧ ∃ N2 : List V → St → Hp → Prop, (∀ zs' σ4 H5, N2 zs' σ4 H5 → ∃ m3, m3 < m2 ∧ W2 (j + 1) m3 zs' σ4 H5) ∧
      ∀ x H', J2.yld j H4 x H' → g2 x σ3 H' fun σ4 H5 => te σ4 H5 fun y H6 => zs.length < sizeLine ∧ N2 (zs ++ [y]) σ4 H6))
    (hR : ∀ (s' : Shared) (σ' : St) (H' : Hp) (zs' : List V) (its' : Array Value) (o' : Obj), Inv Y ((D, o') :: ps) σ' H' s' → s'.heap.PlainList D its' → Vals zs' its'.toList → zs'.length ≤ sizeLine → F zs' σ' H' → R (.ok .next) s') :
    codeAny (model Y.prog Y.w) Y.A (.compStart (.ListComp elt [⟨tg, iter, [], 0⟩, ⟨tg2, iter2, [], 0⟩] scope pos) 1 (.ref it2) (.ref D) Y.env) R s := by
  obtain ⟨W2, ⟨m0, w0⟩, turn⟩ := w
  have stat : ∀ {H' : Hp} {o' : Obj}, (∀ b ∈ fp2, H' b = none) → ∀ b ∈ fp2, FpOk Y ((D, o') :: ps) H' b := fun {H' o'} hn b hb => by
    obtain ⟨_, q1, q2, q3, q4, q5⟩ := f0 b hb
    refine ⟨hn b hb, q1, q2, q3, q4, fun p hp => ?_⟩
    rcases List.mem_append.mp hp with h | h
    · exact q5 p (List.mem_append_left _ h)
    · rcases List.mem_cons.mp h with h | h
      · rw [h]; exact q5 (D, o) (List.mem_append_right _ (List.mem_cons_self ..))
      · exact q5 p (List.mem_append_right _ (List.mem_cons_of_mem _ h))
  have loop : codeAny (model Y.prog Y.w) Y.A (.compLoop (.ListComp elt [⟨tg, iter, [], 0⟩, ⟨tg2, iter2, [], 0⟩] scope pos) 1 (.ref it2) (.ref D) Y.env) R s := by
    refine compLoop_in (fun n s' => ∃ j σ' H' ys its o, Inv Y ((D, o) :: ps) σ' H' s' ∧ s'.heap.PlainList D its ∧ Vals ys its.toList ∧ ys.length ≤ sizeLine ∧ tn2 j s'.heap ∧ (∀ b ∈ fp2, H' b = none) ∧ W2 j n ys σ' H') ?_ m0
      ⟨0, σ, H, zs, its, o, I0, pl0, v0, z0, st0, fun b hb => (f0 b hb).1, w0⟩
    rintro n s5 ⟨i, σ5, H5, ys, its, o, I5, pl5, v5, z5, st5, fr5, w5⟩
    have p5' := I5.pin (D, o) (List.mem_append_right _ (List.mem_cons_self ..))
    rcases turn i n ys σ5 H5 w5 with ⟨stop, qn⟩ | ⟨go, N, hN, step⟩
    · refine wpAny_mono (T.done Y rfl rfl rfl hc i _ s5 σ5 H5 (fun _ _ => False) I5 (stat fr5) st5 stop) (fun r s6 hx9 => ?_) fun _ _ z => z
      obtain ⟨hr, I6⟩ := hx9
      subst hr
      have p6 := I6.pin (D, o) (List.mem_append_right _ (List.mem_cons_self ..))
      have pl6 : s6.heap.PlainList D its := by
        obtain ⟨k, e⟩ := pl5
        have e1 : o = _ := Option.some.inj (p5'.1.symm.trans e)
        exact ⟨k, by rw [p6.1]; exact congrArg some e1⟩
      exact hR s6 σ5 H5 ys its o I6 pl6 v5 z5 qn
    · refine wpAny_mono (T.item Y rfl rfl rfl hc i _ s5 σ5 H5 (fun _ _ => False) I5 (stat fr5) st5 go) (fun r s6 hx9 => ?_) fun _ _ z => z
      obtain ⟨u, hr, h6⟩ := hx9
      subst hr
      refine wpAny_mono h6 (fun _ s7 hx9 => ?_) fun _ _ z => z
      obtain ⟨x, H7, I7, r7, y7, st7, fr7⟩ := hx9
      have I7' := I7.pinned (stat fr7) (T.obj _ _ st7)
      refine wpAny_mono (hg _ s7 σ5 H7 x u _ I7' r7 (step x H7 y7)) (fun _ s8 hx9 => ?_) fun v s' z => hx v s' z
      obtain ⟨σ8, H8, I8, q8⟩ := hx9
      have keepT : ∀ {H' : Hp} {s' : Shared} {σ' : St}, Inv Y (((D, o) :: ps) ++ pinsAt fp2 s7.heap) σ' H' s' → tn2 (i + 1) s'.heap ∧ (∀ b ∈ fp2, H' b = none) ∧ s'.heap.PlainList D its ∧ H' D = none := fun {H' s' σ'} I' => by
        refine ⟨T.keep _ _ _ st7 fun b hb o e => (I'.pin (b, o) (List.mem_append_right _ (List.mem_append_right _ (mem_pinsAt hb e)))).1, fun b hb => ?_, ?_, ?_⟩
        · obtain ⟨o, e, d⟩ := T.obj _ _ st7 b hb
          exact (I'.pin (b, o) (List.mem_append_right _ (List.mem_append_right _ (mem_pinsAt hb e)))).2.1
        · have p' := I'.pin (D, o) (List.mem_append_right _ (List.mem_append_left _ (List.mem_cons_self ..)))
          obtain ⟨k, e⟩ := pl5
          have e1 : o = _ := Option.some.inj (p5'.1.symm.trans e)
          exact ⟨k, by rw [p'.1]; exact congrArg some e1⟩
        · exact (I'.pin (D, o) (List.mem_append_right _ (List.mem_append_left _ (List.mem_cons_self ..)))).2.1
      refine wpAny_mono (he _ s8 σ8 H8 _ I8 q8) (fun y s10 hx9 => ?_) fun v s' z => hx v s' z
      obtain ⟨yv, H10, I10, r10, lt10, q10⟩ := hx9
      obtain ⟨t10, fr10, pl10, hD10⟩ := keepT I10
      have hl := v5.length
      refine wpAny_list_append_plain pl10 (fun h11 pl11 sb11 => ?_) (by rw [← Array.length_toList, ← hl]; exact Nat.le_of_lt lt10)
      obtain ⟨m', hm, w'⟩ := hN _ σ8 H10 q10
      have I10' : Inv Y [] σ8 H10 s10 := I10.pins_of fun p hp => by cases hp
      have I11 : Inv Y [] σ8 H10 { s10 with heap := h11 } :=
        I10'.turned (t' := s10.toks) (it := D) (fun b o hb e => (sb11.2 b hb).trans e) hD10 hDL hD1 hDc (fun p hp => by rw [List.append_nil] at hp; exact hDp p hp)
      obtain ⟨k11, e11⟩ := id pl11
      refine ⟨m', hm, i + 1, σ8, H10, ys ++ [yv], its.push y, { cls := .type "list", data := .seq (its.push y) k11 }, I11.pins_of fun p hp => ?_, pl11, ?_, by rw [List.length_append]; show ys.length + 1 ≤ _; omega, T.keep _ _ _ t10 fun b hb o e => (sb11.2 b (fun z => ?_)).trans e, fr10, w'⟩
      · rcases List.mem_cons.mp hp with h | h
        · subst h
          exact ⟨e11, hD10, hDL, hDfs, fun v z => by cases z⟩
        · obtain ⟨a1, a2, a3, a4, a5⟩ := I10.pin p (List.mem_append_right _ (List.mem_append_left _ (List.mem_cons_of_mem _ h)))
          exact ⟨(sb11.2 p.1 (hps p h)).trans a1, a2, a3, a4, a5⟩
      · rw [Array.toList_push]
        exact v5.append (.cons r10 .nil)
      · exact (f0 b hb).2.2.2.2.2 (D, _) (List.mem_append_right _ (List.mem_cons_self ..)) z.symm
  exact codeAny_compStart_two loop (T.self Y.A 0 _ _ _ st0 loop)
end L2
set_option Elab.async false
set_option linter.all false
set_option maxRecDepth 100000
namespace L2
open PySem PySem.Spec PyProof.Rows
def tComp2 (own : Nat) (fr : List Nat) (wi : TI) (g : TG) (wi2 : TI) (g2 : TG) (te : TE) : TE := fun σ H Q => wi σ H fun J H1 => ∃ W : Nat → Nat → List V → St → Hp → Prop, (∃ m, W 0 m [] (blk own fr σ) H1) ∧ ∀ i m ys σ' H, W i m ys σ' H →
      (J.stop i H ∧ ∀ p, H p = none → Q (.ref p) (upd H p (.lst ys))) ∨
      (J.go i H ∧ ∃ N : List V → St → Hp → Prop, (∀ ys' σ2 H2, N ys' σ2 H2 → ∃ m', m' < m ∧ W (i + 1) m' ys' σ2 H2) ∧
        ∀ x H', J.yld i H x H' → g x σ' H' fun σ2 H2 => wi2 σ2 H2 fun J2 H3 => ∃ W2 : Nat → Nat → List V → St → Hp → Prop, (∃ m2, W2 0 m2 ys σ2 H3) ∧ ∀ j m2 zs σ3 H4, W2 j m2 zs σ3 H4 → (J2.stop j H4 ∧ N zs σ3 H4) ∨ (J2.go j H4 ∧ ∃ N2 : List V → St → Hp → Prop, (∀ zs' σ4 H5, N2 zs' σ4 H5 → ∃ m3, m3 < m2 ∧ W2 (j + 1) m3 zs' σ4 H5) ∧
          ∀ x H', J2.yld j H4 x H' → g2 x σ3 H' fun σ4 H5 => te σ4 H5 fun y H6 => zs.length < sizeLine ∧ N2 (zs ++ [y]) σ4 H6))
section
variable {X : Cx} {scope : Scope} {own frn : List Str} {fr : List Nat} {elt tg iter tg2 iter2 : Expr} {pos : Pos} {wi wi2 : TI} {g g2 : TG} {te : TE}
theorem comp_block2 {pins : List (Addr × Obj)} {σ : St} {H2 : Hp} {s2 : Shared} {it : Addr} {fp : List Addr} {tn : Nat → Heap → Prop} {J : It} {RR : Value → Addr → Result → Shared → Prop} {E : Value → Shared → Prop} {Q : Hp → List V → Prop}
    (S : CompOk X scope own fr frn) (hc : X.calm = true) (I2 : Inv X pins σ H2 s2) (T : Turn X.prog X.w X.K tg J fp it tn) (st2 : tn 0 s2.heap) (f2 : ∀ b ∈ fp, FpOk X pins H2 b)
    (hg : ∀ C s0 H0 fp, PG (cxComp X scope (own ++ frn) C s0 H0 fp) tg g) (hi2 : ∀ C s0 H0 fp, PI (cxComp X scope (own ++ frn) C s0 H0 fp) tg2 iter2 wi2) (hg2 : ∀ C s0 H0 fp, PG (cxComp X scope (own ++ frn) C s0 H0 fp) tg2 g2) (he : ∀ C s0 H0 fp, PE (cxComp X scope (own ++ frn) C s0 H0 fp) elt te) (hs2 : ∀ C x, foldedSetIterable iter2 (compEnvC scope (clOf X.env scope.names []) C X.env) x = pure x)
    (w : ∃ W : Nat → Nat → List V → St → Hp → Prop, (∃ m, W 0 m [] (blk own.length fr σ) H2) ∧ ∀ i m ys σ' H, W i m ys σ' H →
      (J.stop i H ∧ Q H ys) ∨
      (J.go i H ∧ ∃ N : List V → St → Hp → Prop, (∀ ys' σ2 H2, N ys' σ2 H2 → ∃ m', m' < m ∧ W (i + 1) m' ys' σ2 H2) ∧
        ∀ x H', J.yld i H x H' → g x σ' H' fun σ2 H2 => wi2 σ2 H2 fun J2 H3 => ∃ W2 : Nat → Nat → List V → St → Hp → Prop, (∃ m2, W2 0 m2 ys σ2 H3) ∧ ∀ j m2 zs σ3 H4, W2 j m2 zs σ3 H4 → (J2.stop j H4 ∧ N zs σ3 H4) ∨ (J2.go j H4 ∧ ∃ N2 : List V → St → Hp → Prop, (∀ zs' σ4 H5, N2 zs' σ4 H5 → ∃ m3, m3 < m2 ∧ W2 (j + 1) m3 zs' σ4 H5) ∧
          ∀ x H', J2.yld j H4 x H' → g2 x σ3 H' fun σ4 H5 => te σ4 H5 fun y H6 => zs.length < sizeLine ∧ N2 (zs ++ [y]) σ4 H6)))
    (hRR : ∀ (C D : Addr) (s' : Shared) (H' : Hp) (ys : List V) (its : Array Value) (m : Str → Option Value), s2.heap.objs.size ≤ C → s2.heap.objs.size ≤ D → D ≠ C → s'.heap.Ns C m → H' C = none → H' D = none → s'.heap.PlainList D its → Vals ys its.toList → ys.length ≤ sizeLine →
      Inv X pins σ H' s' → Q H' ys → RR (.ref D) C (.ok .next) s') :
    wpAny (model X.prog X.w) X.A (newList []) (fun acc s₃ => wpAny (model X.prog X.w) X.A (newFunctionEnv scope X.env.globals (clOf X.env scope.names []) [] X.env.qual none .none (some X.env)) (fun cenv s₄ =>
      codeAny (model X.prog X.w) X.A (.compStart (.ListComp elt [⟨tg, iter, [], 0⟩, ⟨tg2, iter2, [], 0⟩] scope pos) 0 (.ref it) acc { cenv with scope := relabel scope X.env }) (RR acc cenv.locals) s₄) E s₃) E s2 := by
  obtain ⟨p1, p2, p3, p4, p5, p6, p7⟩ := S.parts
  obtain ⟨W, ⟨m0, w0⟩, turn⟩ := w
  refine wpAny_newObj_type (wpAny_newFunctionEnv p2 (by intro y hy; simp at hy) (fun h₁ hns₁ hsb₁ => ?_) p1)
  dsimp only at hns₁ hsb₁ ⊢
  generalize hH2 : s2.heap.push { cls := .type "list", dict := none, data := .seq ([] : List Value).toArray } = HD at hns₁ hsb₁ ⊢
  have hCs : HD.objs.size = s2.heap.objs.size + 1 := by rw [← hH2, Heap.size_push]
  have hDC : s2.heap.objs.size ≠ HD.objs.size := by omega
  have hCle : s2.heap.objs.size ≤ HD.objs.size := by omega
  have below : ∀ b, b < s2.heap.objs.size → b ≠ HD.objs.size ∧ b ≠ s2.heap.objs.size := fun b hb => ⟨by omega, by omega⟩
  have old : ∀ b o, s2.heap.get? b = some o → h₁.get? b = some o := fun b o e => hsb₁.extBut b o (below b (Heap.lt_size e)).1 (Heap.get?_push_of_some _ (hH2 ▸ Heap.get?_push_of_some _ e))
  have hacc : h₁.get? s2.heap.objs.size = some { cls := .type "list", data := .seq ([] : List Value).toArray } := hsb₁.extBut _ _ hDC (Heap.get?_push_of_some _ (hH2 ▸ Heap.get?_push_size _ rfl))
  have flt : ∀ b ∈ fp, b < s2.heap.objs.size := fun b hb => by
    obtain ⟨o, e, _⟩ := T.obj _ _ st2 b hb
    exact Heap.lt_size e
  generalize hDg : s2.heap.objs.size = D at *
  generalize hCg : HD.objs.size = C at *
  have st3 : tn 0 h₁ := T.keep _ _ _ st2 fun b _ o e => old b o e
  -- facts of the block
  have clsub : ∀ x c, (clOf X.env scope.names []).lookup x = some c → X.env.cells.lookup x = some c := fun x c e => by
    rcases clOf_mem _ _ _ _ (lookup_memS e) with q | q
    · cases q
    · exact q
  have cD : ∀ x c, (clOf X.env scope.names []).lookup x = some c → c ≠ D := fun x c e z => by
    obtain ⟨v, q⟩ := I2.cell x c (clsub x c e)
    exact Nat.lt_irrefl _ (Nat.lt_of_lt_of_le q.lt (by rw [hDg, z]; exact Nat.le_refl _))
  have loop : ∀ s₃ : Shared, s₃ = { s2 with heap := h₁, toks := s2.toks + ([] : List (Str × Value)).length } →
      codeAny (model X.prog X.w) X.A (.compLoop (.ListComp elt [⟨tg, iter, [], 0⟩, ⟨tg2, iter2, [], 0⟩] scope pos) 0 (.ref it) (.ref D) (compEnvC scope (clOf X.env scope.names []) C X.env)) (RR (.ref D) C) s₃ := by
    rintro s₃ rfl
    have I3 : Inv (cxComp X scope (own ++ frn) C s2 H2 fp) [(D, _)] (blk own.length fr σ) H2 { s2 with heap := h₁, toks := s2.toks + ([] : List (Str × Value)).length } :=
      inv_comp (m := fun _ => none) I2 S f2 (by rw [hDg]; exact flt) (by rw [hDg]; exact hCle) (hns₁ : h₁.Ns C _) old (by rw [hDg]; exact Nat.le_refl _) hDC hacc (fun v z => by cases z)
    have stat : ∀ {H' : Hp} {pl : List (Addr × Obj)}, (∀ p ∈ pl, p.1 = D) → (∀ b ∈ fp, H' b = none) → ∀ b ∈ fp, FpOk (cxComp X scope (own ++ frn) C s2 H2 fp) pl H' b := fun {H' pl} hpl hn b hb => by
      refine ⟨hn b hb, (below b (flt b hb)).1, fun z => ?_, .inl hb, fun x c e => (f2 b hb).2.2.2.2.1 x c (clsub x c e), fun p hp => ?_⟩
      · have z' : b ∈ frs X.stack := z
        rcases List.mem_cons.mp (I2.stkSub b z') with e | e
        · exact (f2 b hb).2.1 e
        · exact (f2 b hb).2.2.1 e
      · have hp' : p ∈ pl := by simpa [cxComp] using hp
        rw [hpl p hp']
        exact Ne.symm (below b (flt b hb)).2
    refine compLoop_out (hs2 C) (env := compEnvC scope (clOf X.env scope.names []) C X.env) (fun n s' => ∃ i σ' H' ys its o, Inv (cxComp X scope (own ++ frn) C s2 H2 fp) [(D, o)] σ' H' s' ∧ s'.heap.PlainList D its ∧ Vals ys its.toList ∧ ys.length ≤ sizeLine ∧ tn i s'.heap ∧ (∀ b ∈ fp, H' b = none) ∧ W i n ys σ' H') ?_ m0
      ⟨0, _, H2, [], #[], _, I3, ⟨_, hacc⟩, .nil, Nat.zero_le _, st3, fun b hb => (f2 b hb).1, w0⟩
    rintro n s5 ⟨i, σ5, H5, ys, its, o, I5, pl5, v5, z5, st5, fr5, w5⟩
    have one : ∀ {o : Obj}, ∀ p ∈ [(D, o)], p.1 = D := fun p hp => by
      have e := List.mem_singleton.mp hp
      rw [e]
    rcases turn i n ys σ5 H5 w5 with ⟨stop, qn⟩ | ⟨go, N, hN, step⟩
    · refine wpAny_mono (T.done (cxComp X scope (own ++ frn) C s2 H2 fp) rfl rfl rfl hc i _ s5 σ5 H5 (fun _ _ => False) I5 (stat one fr5) st5 stop) (fun r s6 hx9 => ?_) fun _ _ z => z
      obtain ⟨hr, I6⟩ := hx9
      subst hr
      obtain ⟨m6, hn6, _⟩ := I6.loc
      have p6 := I6.pin (D, o) (by simp [cxComp])
      have p5' := I5.pin (D, o) (by simp [cxComp])
      have pl6 : s6.heap.PlainList D its := by
        obtain ⟨k, e⟩ := pl5
        have e1 : o = _ := Option.some.inj (p5'.1.symm.trans e)
        exact ⟨k, by rw [p6.1]; exact congrArg some e1⟩
      have IX : Inv X pins σ H5 s6 := I2.call' (ch := fp) I6.os I6.base I6.hok I6.bare fun b hb => ⟨(f2 b hb).2.2.2.1, (f2 b hb).2.1, (f2 b hb).2.2.2.2.1, (f2 b hb).2.2.2.2.2⟩
      exact hRR C D s6 H5 ys its m6 hCle (Nat.le_refl _) hDC hn6 I6.free p6.2.1 pl6 v5 z5 IX qn
    · refine wpAny_mono (T.item (cxComp X scope (own ++ frn) C s2 H2 fp) rfl rfl rfl hc i _ s5 σ5 H5 (fun _ _ => False) I5 (stat one fr5) st5 go) (fun r s6 hx9 => ?_) fun _ _ z => z
      obtain ⟨u, hr, h6⟩ := hx9
      subst hr
      refine wpAny_mono h6 (fun _ s7 hx9 => ?_) fun _ _ z => z
      obtain ⟨x, H7, I7, r7, y7, st7, fr7⟩ := hx9
      have I7' := I7.pinned (stat one fr7) (T.obj _ _ st7)
      refine wpAny_mono (hg C s2 H2 fp _ s7 σ5 H7 x u _ I7' r7 (step x H7 y7)) (fun _ s8 hx9 => ?_) fun _ _ z => z
      obtain ⟨σ8, H8, I8, q8⟩ := hx9
      refine wpAny_mono (hi2 C s2 H2 fp _ s8 σ8 H8 _ I8 q8) (fun v2 s9 h9 => wpAny_mono h9 (fun itv s10 h10 => ?_) fun _ _ z => z) fun _ _ z => z
      obtain ⟨it2, fp2, tn2, J2, H10, e10, I10, T2, st10, f10, w10⟩ := h10
      subst e10
      have DfsX : D ∉ frs X.stack := fun z => by
        rcases List.mem_cons.mp (I2.stkSub D z) with e | e
        · exact Nat.lt_irrefl _ (Nat.lt_of_lt_of_le I2.lt (by rw [hDg, e]; exact Nat.le_refl _))
        · exact I2.nofs (by rw [hDg]; exact Nat.le_refl _) e
      have p5' := I5.pin (D, o) (by simp [cxComp])
      have pl10 : s10.heap.PlainList D its := by
        have p' := I10.pin (D, o) (by simp [cxComp])
        obtain ⟨k, e⟩ := pl5
        have e1 : o = _ := Option.some.inj (p5'.1.symm.trans e)
        exact ⟨k, by rw [p'.1]; exact congrArg some e1⟩
      refine comp_inner (Y := cxComp X scope (own ++ frn) C s2 H2 fp) (ps := pinsAt fp s7.heap) (F := N) (fun _ _ z => z) hc T2 (hg2 C s2 H2 fp) (he C s2 H2 fp) hDC (.inr (by show s2.heap.objs.size ≤ D; rw [hDg]; exact Nat.le_refl _)) cD (fun p hp => by simp [cxComp] at hp) DfsX
        (fun p hp => (below p.1 (flt p.1 (of_pinsAt hp).1)).2) I10 pl10 v5 z5 st10 f10 w10 (fun s' σ' H' zs' its' o' I' pl' v' z' q' => ?_)
      obtain ⟨m', hm, w'⟩ := hN zs' σ' H' q'
      refine ⟨m', hm, i + 1, σ', H', zs', its', o', I'.pins_of fun p hp => ?_, pl', v', z', T.keep _ _ _ st7 fun b hb o e => (I'.pin (b, o) (List.mem_append_right _ (List.mem_cons_of_mem _ (mem_pinsAt hb e)))).1, fun b hb => ?_, w'⟩
      · have e := List.mem_singleton.mp hp
        subst e
        exact I'.pin _ (List.mem_append_right _ (List.mem_cons_self ..))
      · obtain ⟨o, e, d⟩ := T.obj _ _ st7 b hb
        exact (I'.pin (b, o) (List.mem_append_right _ (List.mem_cons_of_mem _ (mem_pinsAt hb e)))).2.1
  exact codeAny_compStart_list (loop _ rfl) (T.self X.A 0 _ _ _ st3 (loop _ rfl))

end
end L2
set_option Elab.async false
set_option linter.all false
set_option maxRecDepth 100000
namespace L2
open PySem PySem.Spec PyProof.Rows
section
variable {own : Nat} {fr : List Nat} {g g2 : TG} {wi2 : TI} {te : TE} {σ : St} {H : Hp} {Qf : Hp → List V → Prop} {K : PySem.W.Frag}
end
section
variable {X : Cx}
theorem any_range (bs : List Bool) (tr : Nat → Bool) (h : ∀ i b, bs[i]? = some b → tr i = b) : (List.range bs.length).any tr = bs.any id := by
  rw [Bool.eq_iff_iff, List.any_eq_true, List.any_eq_true]
  constructor
  · rintro ⟨i, hi, q⟩
    have hi' := List.mem_range.mp hi
    rw [h i _ (List.getElem?_eq_getElem hi')] at q
    exact ⟨_, List.getElem_mem hi', q⟩
  · rintro ⟨b, hb, q⟩
    obtain ⟨i, hi⟩ := List.getElem?_of_mem hb
    exact ⟨i, List.mem_range.mpr (List.getElem?_eq_some_iff.mp hi).1, by rw [h i b hi]; exact q⟩
theorem call_any (hc : X.calm = true) : CallR X (.builtin "any") (fun xs H Q => ∃ (p : Addr) (bs : List Bool), xs = [.ref p] ∧ SqL X.K H p (bs.map V.bl) ∧ Q (.bl (bs.any id)) H) := by
  intro pins s σ H xs us Q I r h
  obtain ⟨p, bs, rfl, hx, q⟩ := h
  obtain ⟨u, rfl, rx⟩ := vals1 r
  cases rx
  obtain ⟨its, rv, pl, hz⟩ := I.list hx
  have hl := rv.length
  rw [List.length_map] at hl
  have hlt : p < s.heap.objs.size := by obtain ⟨o, n, e, _⟩ := pl; exact Heap.lt_size e
  refine call_any_walk (wpAny_pyIter_list pl.isList ?_)
  refine ⟨s.heap.objs.size, _, _, _, _, _, fun i => (bs[i]?).getD false, rfl, Walks.list (A := X.A.in1) (I.ok.hd hc) s.heap.objs.size p (Nat.ne_of_lt hlt) its.toArray, ⟨⟨_, Heap.get?_push_size _ rfl, rfl, rfl⟩, pl.isList.push _⟩, ?_, fun h' tk hk => ?_⟩
  · intro i v s' Q' E' hP hQ'
    have hP' : its[i]? = some v := by simpa using hP
    have hi : i < bs.length := by rw [hl]; exact (List.getElem?_eq_some_iff.mp hP').1
    obtain ⟨w, hw, rw'⟩ := rv.get (i := i) (x := .bl bs[i]) (by rw [List.getElem?_map, List.getElem?_eq_getElem hi]; rfl)
    rw [hw] at hP'
    cases hP'
    cases rw'
    have e : (bs[i]?).getD false = bs[i] := by rw [List.getElem?_eq_getElem hi]; rfl
    rw [← e]
    exact wpAny_truthy_bool hQ'
  · have e : (List.range its.toArray.size).any (fun i => (bs[i]?).getD false) = bs.any id := by
      rw [List.size_toArray, ← hl]
      exact any_range bs _ fun i b hb => by rw [hb]; rfl
    rw [e]
    refine ⟨.bl _, H, I.kept (h' := h') fun b o e => hk b o ?_ (Heap.get?_push_of_some _ e), rfl, q⟩
    intro z
    have z' : b = s.heap.objs.size := by simpa using z
    exact Nat.lt_irrefl _ (z' ▸ Heap.lt_size e)
end
end L2
set_option Elab.async false
set_option linter.all false
set_option maxRecDepth 100000
namespace L2
open PySem PySem.Spec PyProof.Rows

section
variable {κ : Type} [DecidableEq κ]
def valV (kvs : List (κ × V)) (k : κ) : Option V := (kvs.find? fun kv => decide (kv.1 = k)).map (·.2)
def putK (kvs : List (κ × V)) (k : κ) (v : V) : List (κ × V) :=
  if (kvs.any fun kv => decide (kv.1 = k)) = true then kvs.map (fun kv => if kv.1 = k then (kv.1, v) else kv) else kvs ++ [(k, v)]
def dropK (kvs : List (κ × V)) (k : κ) : List (κ × V) := kvs.filter fun kv => decide (kv.1 ≠ k)

theorem valV_pos {p : κ × V} {r : List (κ × V)} {k : κ} (e : p.1 = k) : valV (p :: r) k = some p.2 := by simp [valV, List.find?_cons, e]
theorem valV_neg {p : κ × V} {r : List (κ × V)} {k : κ} (e : ¬ p.1 = k) : valV (p :: r) k = valV r k := by simp [valV, List.find?_cons, e]
theorem valV_any (k : κ) : ∀ kvs : List (κ × V), (kvs.any fun kv => decide (kv.1 = k)) = (valV kvs k).isSome
  | [] => rfl
  | p :: r => by
    rw [List.any_cons]
    by_cases e : p.1 = k
    · simp only [valV_pos e, decide_eq_true e, Bool.true_or, Option.isSome_some]
    · rw [valV_neg e, decide_eq_false e, Bool.false_or]; exact valV_any k r
theorem RelO.isSome_eq {o : Option V} {u : Option Value} (r : RelO o u) : o.isSome = u.isSome := by
  cases o with
  | none => cases u with
    | none => rfl
    | some _ => exact (show False from r).elim
  | some _ => cases u with
    | none => exact (show False from r).elim
    | some _ => rfl
theorem RelO.getD {o : Option V} {u : Option Value} {d : V} {d' : Value} (r : RelO o u) (rd : RelV d d') : RelV (o.getD d) (u.getD d') := by
  cases o with
  | none => cases u with
    | none => exact rd
    | some _ => exact (show False from r).elim
  | some _ => cases u with
    | none => exact (show False from r).elim
    | some _ => exact r

theorem KV.val {kvs : List (κ × V)} {vs : List (κ × Value)} (r : KV kvs vs) (k : κ) : RelO (valV kvs k) (valueAt vs k) := by
  unfold KV at r
  induction r with
  | nil => exact True.intro
  | @cons p q ps qs h t ih =>
    obtain ⟨h1, h2⟩ := h
    by_cases e : p.1 = k
    · have e' : q.1 = k := h1.symm.trans e
      have b : valueAt (q :: qs) k = some q.2 := by simp [valueAt, List.find?_cons, e']
      rw [valV_pos e, b]; exact h2
    · have e' : ¬ q.1 = k := fun z => e (h1.trans z)
      have b : valueAt (q :: qs) k = valueAt qs k := by simp [valueAt, List.find?_cons, e']
      rw [valV_neg e, b]; exact ih
theorem KV.any {kvs : List (κ × V)} {vs : List (κ × Value)} (r : KV kvs vs) (k : κ) : (kvs.any fun kv => decide (kv.1 = k)) = vs.any fun kv => decide (kv.1 = k) := by
  unfold KV at r
  induction r with
  | nil => rfl
  | cons h t ih => rw [List.any_cons, List.any_cons, ih, h.1]
theorem KV.repl {kvs : List (κ × V)} {vs : List (κ × Value)} (r : KV kvs vs) (k : κ) {y : V} {u : Value} (ry : RelV y u) :
    KV (kvs.map fun kv => if kv.1 = k then (kv.1, y) else kv) (vs.map fun kv => if kv.1 = k then (kv.1, u) else kv) := by
  unfold KV at r ⊢
  induction r with
  | nil => exact .nil
  | @cons p q ps qs h t ih =>
    rw [List.map_cons, List.map_cons]
    refine .cons ?_ ih
    obtain ⟨h1, h2⟩ := h
    by_cases e : p.1 = k
    · rw [if_pos e, if_pos (h1.symm.trans e)]; exact ⟨h1, ry⟩
    · rw [if_neg e, if_neg (fun z => e (h1.trans z))]; exact ⟨h1, h2⟩
theorem KV.put {kvs : List (κ × V)} {vs : List (κ × Value)} (r : KV kvs vs) (k : κ) {y : V} {u : Value} (ry : RelV y u) : KV (putK kvs k y) (stored vs k u) := by
  unfold putK stored
  rw [r.any k]
  by_cases e : (vs.any fun kv => decide (kv.1 = k)) = true
  · rw [if_pos e, if_pos e]; exact r.repl k ry
  · rw [if_neg e, if_neg e]; exact Paired.snoc r ⟨rfl, ry⟩
theorem KV.drop {kvs : List (κ × V)} {vs : List (κ × Value)} (r : KV kvs vs) (k : κ) : KV (dropK kvs k) (without vs k) := by
  unfold KV at r ⊢
  unfold dropK without
  induction r with
  | nil => exact .nil
  | @cons p q ps qs h t ih =>
    obtain ⟨h1, h2⟩ := h
    rw [List.filter_cons, List.filter_cons]
    by_cases e : p.1 = k
    · have a : ¬ decide (p.1 ≠ k) = true := by simp [e]
      have b : ¬ decide (q.1 ≠ k) = true := by simp [h1.symm.trans e]
      rw [if_neg a, if_neg b]; exact ih
    · have e' : ¬ q.1 = k := fun z => e (h1.trans z)
      have a : decide (p.1 ≠ k) = true := by simp [e]
      have b : decide (q.1 ≠ k) = true := by simp [e']
      rw [if_pos a, if_pos b]; exact .cons ⟨h1, h2⟩ ih
theorem KV.keys {kvs : List (κ × V)} {vs : List (κ × Value)} (r : KV kvs vs) : kvs.map (·.1) = vs.map (·.1) := by
  unfold KV at r
  induction r with
  | nil => rfl
  | cons h t ih => rw [List.map_cons, List.map_cons, ih, h.1]
theorem KV.length {kvs : List (κ × V)} {vs : List (κ × Value)} (r : KV kvs vs) : kvs.length = vs.length := Paired.length r
end


theorem kV_is {P : Program} {w : World} {k : Key} {u : Value} (r : RelV (kV k) u) : (mixKind P w).is k u = true := by
  cases k with
  | inl i => obtain ⟨t, e⟩ := (show ∃ t, u = Value.int i t from r); subst e; exact mixKind_int P w i t
  | inr x => obtain ⟨t, e⟩ := (show ∃ t, u = Value.str x t from r); subst e; exact mixKind_str P w x t
theorem items_are {P : Program} {w : World} : ∀ {ks : List Key} {us : List Value}, Vals (ks.map kV) us → ItemsAre (mixKind P w) ks us
  | [], _, r => by rw [List.map_nil] at r; cases r; exact .nil
  | k :: ks, _, r => by
    rw [List.map_cons] at r
    cases r with
    | cons h t => exact .cons (kV_is h) (items_are t)

abbrev KT (H : Hp) : List (List Key × V) → List (List Key × Addr × Value) → Prop := Paired fun p q => p.1 = q.1 ∧ H q.2.1 = some (.tup (p.1.map kV)) ∧ RelV p.2 q.2.2
theorem KT.val {H : Hp} {kvs : List (List Key × V)} {xs : List (List Key × Addr × Value)} (r : KT H kvs xs) (k : List Key) : RelO (valV kvs k) ((atKey xs k).map (·.2)) := by
  induction r with
  | nil => exact True.intro
  | @cons p q ps qs h t ih =>
    obtain ⟨h1, _, h2⟩ := h
    by_cases e : p.1 = k
    · have e' : q.1 = k := h1.symm.trans e
      have b : atKey (q :: qs) k = some q.2 := by simp [atKey, List.find?_cons, e']
      rw [valV_pos e, b]; exact h2
    · have e' : ¬ q.1 = k := fun z => e (h1.trans z)
      have b : atKey (q :: qs) k = atKey qs k := by simp [atKey, List.find?_cons, e']
      rw [valV_neg e, b]; exact ih
theorem KT.repl {H : Hp} {kvs : List (List Key × V)} {xs : List (List Key × Addr × Value)} (r : KT H kvs xs) (k : List Key) {y : V} {u : Value} (ry : RelV y u) :
    KT H (kvs.map fun kv => if kv.1 = k then (kv.1, y) else kv) (xs.map (putAt k u)) := by
  induction r with
  | nil => exact .nil
  | @cons p q ps qs h t ih =>
    rw [List.map_cons, List.map_cons]
    refine .cons ?_ ih
    obtain ⟨h1, h2, h3⟩ := h
    unfold putAt
    by_cases e : p.1 = k
    · rw [if_pos e, if_pos (h1.symm.trans e)]; exact ⟨h1, h2, ry⟩
    · rw [if_neg e, if_neg (fun z => e (h1.trans z))]; exact ⟨h1, h2, h3⟩
theorem KT.put {H : Hp} {kvs : List (List Key × V)} {xs : List (List Key × Addr × Value)} (r : KT H kvs xs) (k : List Key) {b : Addr} {y : V} {u : Value} (hb : H b = some (.tup (k.map kV))) (ry : RelV y u) :
    KT H (putK kvs k y) (storedH xs k b u) := by
  have e : (kvs.any fun kv => decide (kv.1 = k)) = (atKey xs k).isSome := by
    rw [valV_any, (r.val k).isSome_eq, Option.isSome_map]
  unfold putK storedH
  rw [e]
  by_cases q : (atKey xs k).isSome = true
  · rw [if_pos q, if_pos q]; exact r.repl k ry
  · rw [if_neg q, if_neg q]; exact Paired.snoc r ⟨rfl, hb, ry⟩
theorem KT.keeps {H H' : Hp} {kvs : List (List Key × V)} {xs : List (List Key × Addr × Value)} (r : KT H kvs xs) (ht : ∀ b ys, H b = some (.tup ys) → H' b = some (.tup ys)) : KT H' kvs xs :=
  Paired.mapP r fun _ _ z => ⟨z.1, ht _ _ z.2.1, z.2.2⟩

section
variable {P : Program} {w : World} {H : Hp} {h : Heap} {a : Addr}
theorem rd_of {u : HO} (ok : HOk P w H h) (e : Rd H a u) : ObjOk P w H h a u := e.ok ok
theorem dk_rd {kvs : List (Key × V)} (ok : HOk P w H h) (e : Rd H a (.dK kvs)) : kvs.length ≤ sizeLine ∧ (a == sysModules) = false ∧ ∃ vs, KV kvs vs ∧ h.DictOf (mixKind P w) a vs :=
  show ObjOk P w H h a (.dK kvs) from rd_of ok e
theorem key_of {ks : List Key} (ok : HOk P w H h) (e : H a = some (.tup (ks.map kV))) : (tupleKind (mixKind P w)).is h ks a := by
  obtain ⟨_, its, n, r, e1⟩ := (show ObjOk P w H h a (.tup (ks.map kV)) from ok a _ e)
  exact ⟨_, its.toArray, n, e1, rfl, rfl, by simpa using items_are r⟩
theorem dt_rd {kvs : List (List Key × V)} (ok : HOk P w H h) (e : Rd H a (.dT kvs)) : kvs.length ≤ sizeLine ∧ (a == sysModules) = false ∧
    ∃ xs, KT H kvs xs ∧ h.DictOfH (tupleKind (mixKind P w)) a xs := by
  obtain ⟨z, y, xs, r, o, es, ep, h1, h2, h3, h4, h5⟩ := (show ObjOk P w H h a (.dT kvs) from rd_of ok e)
  refine ⟨z, y, xs, r, o, es, ep, h1, h2, h3, h4, fun x hx => ?_, h5⟩
  have all : ∀ {l : List (List Key × V)} {m : List (List Key × Addr × Value)}, KT H l m → ∀ x ∈ m, (tupleKind (mixKind P w)).is h x.1 x.2.1 := by
    intro l m q
    induction q with
    | nil => intro x hx; exact nomatch hx
    | @cons p q ps qs hq t ih =>
      intro x hx
      rcases List.mem_cons.mp hx with e | hx
      · subst e
        exact key_of ok (by rw [← hq.1]; exact hq.2.1)
      · exact ih x hx
  exact all r x hx
end

def DGet (H : Hp) (a : Addr) (y : V) (r : Option V) : Prop :=
  (∃ kvs k, Rd H a (.dK kvs) ∧ y = kV k ∧ r = valV kvs k) ∨ ∃ kvs k b, Rd H a (.dT kvs) ∧ y = .ref b ∧ H b = some (.tup (k.map kV)) ∧ r = valV kvs k
def DPut (H : Hp) (a : Addr) (y v : V) (H' : Hp) : Prop :=
  (∃ kvs k, H a = some (.dK kvs) ∧ y = kV k ∧ kvs.length < sizeLine ∧ H' = upd H a (.dK (putK kvs k v))) ∨
  ∃ kvs k b, H a = some (.dT kvs) ∧ y = .ref b ∧ H b = some (.tup (k.map kV)) ∧ kvs.length < sizeLine ∧ H' = upd H a (.dT (putK kvs k v))
theorem DGet.k {H : Hp} {a : Addr} {kvs : List (Key × V)} {k : Key} (e : H a = some (.dK kvs)) : DGet H a (kV k) (valV kvs k) := .inl ⟨kvs, k, .inl e, rfl, rfl⟩
theorem DGet.t {H : Hp} {a b : Addr} {kvs : List (List Key × V)} {k : List Key} (e : H a = some (.dT kvs)) (eb : H b = some (.tup (k.map kV))) : DGet H a (.ref b) (valV kvs k) := .inr ⟨kvs, k, b, .inl e, rfl, eb, rfl⟩
theorem DPut.k {H : Hp} {a : Addr} {kvs : List (Key × V)} {k : Key} {v : V} (e : H a = some (.dK kvs)) (hl : kvs.length < sizeLine) : DPut H a (kV k) v (upd H a (.dK (putK kvs k v))) := .inl ⟨kvs, k, e, rfl, hl, rfl⟩
theorem DPut.t {H : Hp} {a b : Addr} {kvs : List (List Key × V)} {k : List Key} {v : V} (e : H a = some (.dT kvs)) (eb : H b = some (.tup (k.map kV))) (hl : kvs.length < sizeLine) :
    DPut H a (.ref b) v (upd H a (.dT (putK kvs k v))) := .inr ⟨kvs, k, b, e, rfl, eb, hl, rfl⟩


section
variable {X : Cx} {pins : List (Addr × Obj)} {σ : St} {H : Hp} {s : Shared} {a : Addr} {y v : V} {u r : Value} {o : Option V} {A : Around} {E : Value → Shared → Prop}

theorem Inv.big (I : Inv X pins σ H s) : sysModules < s.heap.objs.size := by
  have h : mainGlobals < s.heap.objs.size := (I.mod.glob.keeps I.bk).lt
  exact Nat.lt_trans (by decide) h

theorem d_in {Q : Value → Shared → Prop} (hu : A.units + 1 < cLine) (I : Inv X pins σ H s) (g : DGet H a y o) (ry : RelV y u) (h : ∀ s', Inv X pins σ H s' → Q (.bool o.isSome) s') :
    wpAny (model X.prog X.w) A (compareOp .In u (.ref a)) Q E s := by
  rcases g with ⟨kvs, k, e, ey, l⟩ | ⟨kvs, k, b, e, ey, eb, l⟩
  · subst ey
    obtain ⟨z, hd, vs, rel, dd⟩ := dk_rd I.hok e
    refine wpAny_in_of (kV_is ry) hd dd.mapOf ?_
    rw [← (rel.val k).isSome_eq, ← l]
    exact h _ (I.tok _)
  · subst ey
    cases (show u = Value.ref b from ry)
    obtain ⟨z, hd, xs, rel, dd⟩ := dt_rd I.hok e
    refine wpAny_in_heap (tupleKind_room_in1 hu) (key_of I.hok eb) hd dd ?_
    have q := (rel.val k).isSome_eq
    rw [Option.isSome_map] at q
    rw [← q, ← l]
    exact h _ (I.tok _)
theorem d_notIn {Q : Value → Shared → Prop} (hu : A.units + 1 < cLine) (I : Inv X pins σ H s) (g : DGet H a y o) (ry : RelV y u) (h : ∀ s', Inv X pins σ H s' → Q (.bool (!o.isSome)) s') :
    wpAny (model X.prog X.w) A (compareOp .NotIn u (.ref a)) Q E s := by
  rcases g with ⟨kvs, k, e, ey, l⟩ | ⟨kvs, k, b, e, ey, eb, l⟩
  · subst ey
    obtain ⟨z, hd, vs, rel, dd⟩ := dk_rd I.hok e
    refine wpAny_notIn_of (kV_is ry) hd dd.mapOf ?_
    rw [← (rel.val k).isSome_eq, ← l]
    exact h _ (I.tok _)
  · subst ey
    cases (show u = Value.ref b from ry)
    obtain ⟨z, hd, xs, rel, dd⟩ := dt_rd I.hok e
    refine wpAny_notIn_heap (tupleKind_room_in1 hu) (key_of I.hok eb) hd dd ?_
    have q := (rel.val k).isSome_eq
    rw [Option.isSome_map] at q
    rw [← q, ← l]
    exact h _ (I.tok _)
end

section
variable {X : Cx} {pins : List (Addr × Obj)} {σ : St} {H : Hp} {s : Shared} {a : Addr} {kvs : List (Key × V)} {k : Key} {u : Value} {A : Around} {E : Value → Shared → Prop}
end


def tDIn (ty td : TE) : TE := fun σ H Q => ty σ H fun y H1 => td σ H1 fun x H2 => ∃ a o, x = .ref a ∧ DGet H2 a y o ∧ Q (.bl o.isSome) H2
def tDNotIn (ty td : TE) : TE := fun σ H Q => ty σ H fun y H1 => td σ H1 fun x H2 => ∃ a o, x = .ref a ∧ DGet H2 a y o ∧ Q (.bl (!o.isSome)) H2
section
variable {X : Cx} {o i e value : Expr} {pos pos' tpos : Pos} {td ty tv : TE}
theorem pc_din (hu : X.A.units + 1 < cLine) (hi : PE X i ty) (ho : PE X o td) : PC X .In i o (tDIn ty td) := by
  intro pins s σ H Q I h
  refine thn (hi pins s σ H _ I h) fun iv s1 ⟨y, H1, I1, ry, q1⟩ => thn (ho pins s1 σ H1 _ I1 q1) fun u s2 hx9 => ?_
  obtain ⟨x, H2, I2, rx, a, ov, ex, g, q2⟩ := hx9
  subst ex
  obtain rfl : u = Value.ref a := rx
  exact d_in hu I2 g ry fun s3 I3 => ⟨.bl ov.isSome, H2, I3, rfl, q2⟩
theorem pc_dnotin (hu : X.A.units + 1 < cLine) (hi : PE X i ty) (ho : PE X o td) : PC X .NotIn i o (tDNotIn ty td) := by
  intro pins s σ H Q I h
  refine thn (hi pins s σ H _ I h) fun iv s1 ⟨y, H1, I1, ry, q1⟩ => thn (ho pins s1 σ H1 _ I1 q1) fun u s2 hx9 => ?_
  obtain ⟨x, H2, I2, rx, a, ov, ex, g, q2⟩ := hx9
  subst ex
  obtain rfl : u = Value.ref a := rx
  exact d_notIn hu I2 g ry fun s3 I3 => ⟨.bl (!ov.isSome), H2, I3, rfl, q2⟩
end


section
variable {X : Cx} {pos : Pos}
end
end L2
set_option Elab.async false
set_option linter.all false
set_option maxRecDepth 100000
namespace L2
open PySem PySem.Spec PyProof.Rows
def NF (H0 : Hp) (a : Addr) : Prop := ∀ o u, H0 a ≠ some (.frz o u)
section
variable {X : Cx} {pins : List (Addr × Obj)} {σ : St} {H : Hp} {s : Shared} {a : Addr}
theorem Inv.nf {kvs : List (Key × V)} (I : Inv X pins σ H s) (e : H a = some (.dK kvs)) : NF X.H₀ a := fun o u z => by
  have := I.base.frzs a o u z
  rw [e] at this; cases this
end
section
variable {X : Cx} {tg : Expr}
end
end L2
set_option Elab.async false
set_option linter.all false
set_option maxRecDepth 100000
namespace L2
open PySem PySem.Spec PyProof.Rows
section
variable {X : Cx} {pos : Pos} {ek ev : Expr} {tk tv : TE}
end
end L2
set_option Elab.async false
set_option linter.all false
set_option maxRecDepth 100000
namespace L2
open PySem PySem.Spec PyProof.Rows
section
variable {prog : Program} {w : World} {A : Around} {E : Value → Shared → Prop} {s : Shared}
def ItemAt (h : Heap) (u : Value) (i : Int) (v : Value) : Prop := ∃ p, u = .ref p ∧ ((∃ its : Array Value, h.IsTuple p its ∧ 0 ≤ i ∧ i < 1000 ∧ its[i.toNat]? = some v) ∨ ∃ its : Array Value, h.IsList p its ∧ 0 ≤ i ∧ i < 1000 ∧ its[i.toNat]? = some v)
theorem ItemAt.keeps {h h' : Heap} {u : Value} {i : Int} {v : Value} (x : ItemAt h u i v) (k : ∀ b o, h.get? b = some o → h'.get? b = some o) : ItemAt h' u i v := by
  obtain ⟨p, rfl, ⟨its, ⟨o, ho, r⟩, q⟩ | ⟨its, ⟨o, ho, r⟩, q⟩⟩ := x
  · exact ⟨p, rfl, .inl ⟨its, ⟨o, k _ _ ho, r⟩, q⟩⟩
  · exact ⟨p, rfl, .inr ⟨its, ⟨o, k _ _ ho, r⟩, q⟩⟩
section
variable {R : Result → Shared → Prop} {I : Addr} {fp wr : List Addr} {n : Nat} {Pv : Nat → Value → Prop} {St : Nat → Heap → Prop} {f : Addr} {kf : Nat → Int} {L : List (Addr × Obj)}
end
end
end L2
set_option Elab.async false
set_option linter.all false
set_option maxRecDepth 100000
namespace L2
open PySem PySem.Spec PyProof.Rows
structure Lm (K : PySem.W.Frag) (mg : Str → Option Value) (base : Heap) (c P : Addr) : Prop where
  hd : PySem.W.codeHdIn K c P = true
  gP : mainGlobals ≠ P
  bu : base.BuiltinsAt mg P
section
variable {X : Cx} {pins : List (Addr × Obj)} {σ : St} {H : Hp} {s : Shared} {c P c' : Addr} {q : Str} {ps : Array Value} {h' : Heap} {t' : Nat}
end
end L2
set_option Elab.async false
set_option linter.all false
set_option maxRecDepth 100000
namespace L2
open PySem PySem.Spec PyProof.Rows
section
variable {X : Cx} {pins : List (Addr × Obj)} {σ : St} {H : Hp} {s : Shared}
theorem ItemAt.obj {h : Heap} {u : Value} {i : Int} {v : Value} (x : ItemAt h u i v) : ∃ p o, u = .ref p ∧ h.get? p = some o ∧ ∀ h' : Heap, h'.get? p = some o → ItemAt h' u i v := by
  obtain ⟨p, rfl, ⟨its, ⟨o, ho, r⟩, q⟩ | ⟨its, ⟨o, ho, r⟩, q⟩⟩ := x
  · exact ⟨p, o, rfl, ho, fun h' e => ⟨p, rfl, .inl ⟨its, ⟨o, e, r⟩, q⟩⟩⟩
  · exact ⟨p, o, rfl, ho, fun h' e => ⟨p, rfl, .inr ⟨its, ⟨o, e, r⟩, q⟩⟩⟩
end
end L2
set_option Elab.async false
set_option linter.all false
set_option maxRecDepth 100000
namespace L2
open PySem PySem.Spec PyProof.Rows
end L2
namespace L2
open PySem PySem.Spec PyProof.Rows
section
variable {P : Program} {w : World} {K : PySem.W.Frag} {mg : Str → Option Value} {base : Heap}
end
end L2
set_option Elab.async false
set_option linter.all false
set_option maxRecDepth 100000
namespace L2
open PySem PySem.Spec PyProof.Rows
abbrev IsZipG (h : Heap) (z TI TO : Addr) (f0 : Value) (f1 : Bool) : Prop :=
  h.get? z = some { cls := .type "zip", dict := none, data := .fields #[f0, .bool f1, .bool false, .ref TI, .ref TO], slots := #[] }
def F0 (f : Value) : Prop := f = .none ∨ ∃ a t, f = .int a t
theorem wpAny_alive {M : Model} {A : Around} {E : Value → Shared → Prop} {s : Shared} {a : Addr} {Q : Option Obj → Shared → Prop} (h : Q (s.heap.get? a) s) : wpAny M A (loadIfAlive a) Q E s := fun Γ p _ => by
  show Sem.wp M Γ (.loadIfAlive a .pure) _ _ p s
  rw [Sem.wp_loadIfAlive]
  exact (Sem.wp_pure ..).mpr h
section
variable {prog : Program} {w : World} {A : Around} {E : Value → Shared → Prop} {s : Shared} {z TI TO i1 i2 l1 l2 : Addr} {n1 n2 : Nat} {P1 P2 : Nat → Value → Prop} {st1 st2 : Nat → Heap → Prop}
theorem isFree {f0 : Value} {f1 : Bool} {Q : Bool → Shared → Prop} (hz : IsZipG s.heap z TI TO f0 f1) (hf : F0 f0) (h1 : Q true s) (h2 : ∀ h' b, IsZipG h' z TI TO f0 b → Heap.SameBut z s.heap h' → Q false { s with heap := h' }) :
    wpAny (model prog w) A (Builtin.SmallTypes.ownedTupleIsFree (.ref z)) Q E s := by
  unfold Builtin.SmallTypes.ownedTupleIsFree
  rcases hf with rfl | ⟨a, t, rfl⟩
  · exact wpAny_bind (wpAny_field hz rfl (x := .none) rfl (wpAny_pure h1))
  · refine wpAny_bind (wpAny_field hz rfl (x := .int a t) rfl ?_)
    show wpAny (model prog w) A (loadIfAlive a.toNat >>= _) Q E s
    refine wpAny_bind (wpAny_alive ?_)
    cases hq : s.heap.get? a.toNat with
    | none => exact wpAny_pure h1
    | some o =>
      show wpAny (model prog w) A (field (.ref z) 1 >>= _) Q E s
      refine wpAny_bind (wpAny_field hz rfl (x := .bool f1) rfl ?_)
      cases f1 with
      | true => exact wpAny_pure (h2 s.heap true hz (Heap.SameBut.refl _ _))
      | false =>
        show wpAny (model prog w) A (setField (.ref z) 1 (.bool true) >>= _) Q E s
        refine wpAny_bind (wpAny_setField_rec hz (by simp) fun g hg b => wpAny_pure (h2 g true hg b))
theorem zipItemG {k : Nat} {a b f0 : Value} {f1 : Bool} {Q : Value → Shared → Prop} (D : ZipApart z TI TO i1 i2 l1 l2) (S1 : Sub prog w i1 l1 n1 P1 st1) (S2 : Sub prog w i2 l2 n2 P2 st2)
    (hz : IsZipG s.heap z TI TO f0 f1) (hf : F0 f0) (hTI : IsPair s.heap TI (.ref i1) (.ref i2)) (hTO : IsPair s.heap TO a b) (h1 : st1 k s.heap) (h2 : st2 k s.heap) (k1 : k < n1) (k2 : k < n2)
    (hQ : ∀ h' x y f0' f1', P1 k x → P2 k y → F0 f0' → IsZipG h' z TI TO f0' f1' → (∃ a b, IsPair h' TO a b) → st1 (k + 1) h' → st2 (k + 1) h' → IsPair h' s.heap.objs.size x y → h'.objs.size = s.heap.objs.size + 1 →
      (∀ c o, c ≠ z → c ≠ TO → c ≠ i1 → c ≠ i2 → s.heap.get? c = some o → h'.get? c = some o) → Q (.ref s.heap.objs.size) { s with heap := h' }) :
    wpAny (model prog w) A (Builtin.«zip.__next__» ⟨[.ref z], []⟩) (fun fin s' => ∃ v, fin = .done (.ret v) ∧ Q v s') E s := by
  refine wpAny_bind (m := field (.ref z) 2) (wpAny_field hz rfl (x := .bool false) rfl ?_)
  refine wpAny_bind (m := field (.ref z) 3) (wpAny_field hz rfl (x := .ref TI) rfl ?_)
  refine wpAny_bind (wpAny_seqItems hTI rfl ?_)
  refine wpAny_bind (m := Builtin.SmallTypes.ownedTupleIsFree (.ref z)) (isFree hz hf ?_ fun h0 fb hz0 b0 => ?_)
  · simp only [if_true]
    refine wpAny_bind (wpAny_rule ?_)
    refine wpAny_bind (wpAny_field hz rfl (x := .ref TO) rfl ?_)
    refine wpAny_bind (wpAny_setField_rec hz (by simp) fun g1 hz1 b1 => ?_)
    have hz1' : IsZipG g1 z TI TO .ellipsis f1 := hz1
    refine wpAny_bind ?_
    simp only [List.zipIdx_cons, List.zipIdx_nil, List.forIn_cons, List.forIn_nil]
    have s1 : st1 k g1 := S1.keep _ _ _ h1 fun c hc o e => b1.extBut c o (by rcases hc with r | r <;> rw [r]; exact D.i1z; exact D.l1z) e
    refine wpAny_bind (wpAny_bind (wpAny_onRaise ?_))
    refine wpAny_bind (m := Builtin.SmallTypes.nextOf (.ref i1)) (S1.item _ k _ _ _ k1 s1 fun x g2 px t1 b2 => wpAny_pure ?_)
    have o2 : IsPair g2 TO a b := b2.extBut _ _ D.TOi1 (b1.extBut _ _ D.TOz hTO)
    refine wpAny_bind (wpAny_seqItems o2 rfl ?_)
    refine wpAny_bind (wpAny_updateSeq_pair o2 fun g3 o3 b3 => ?_)
    have o3' : IsPair g3 TO x b := o3
    refine wpAny_bind (wpAny_letGo (wpAny_pure ?_))
    have s2 : st2 k g3 := S2.keep _ _ _ h2 fun c hc o e => by
      rcases hc with r | r
      · rw [r] at e ⊢; exact b3.extBut _ _ D.TOi2.symm (b2.extBut _ _ D.i12.symm (b1.extBut _ _ D.i2z e))
      · rw [r] at e ⊢; exact b3.extBut _ _ D.l2TO (b2.extBut _ _ D.l2i1 (b1.extBut _ _ D.l2z e))
    refine wpAny_bind (wpAny_bind (wpAny_onRaise ?_))
    refine wpAny_bind (m := Builtin.SmallTypes.nextOf (.ref i2)) (S2.item _ k _ _ _ k2 s2 fun y g4 py t2 b4 => wpAny_pure ?_)
    have o4 : IsPair g4 TO x b := b4.extBut _ _ D.TOi2 o3'
    refine wpAny_bind (wpAny_seqItems o4 rfl ?_)
    refine wpAny_bind (wpAny_updateSeq_pair o4 fun g5 o5 b5 => ?_)
    have o5' : IsPair g5 TO x y := o5
    refine wpAny_bind (wpAny_letGo (wpAny_pure (wpAny_pure ?_)))
    refine wpAny_bind (wpAny_seqItems o5' rfl ?_)
    refine wpAny_bind (wpAny_newTuple ?_)
    have sz : g5.objs.size = s.heap.objs.size := by rw [b5.1, b4.1, b3.1, b2.1, b1.1]
    have z5 : IsZipG g5 z TI TO .ellipsis f1 := b5.extBut _ _ D.TOz.symm (b4.extBut _ _ D.i2z.symm (b3.extBut _ _ D.TOz.symm (b2.extBut _ _ D.i1z.symm hz1')))
    have kp5 : ∀ c o, c ≠ z → c ≠ TO → c ≠ i1 → c ≠ i2 → s.heap.get? c = some o → g5.get? c = some o := fun c o c1 c2 c3 c4 e =>
      b5.extBut _ _ c2 (b4.extBut _ _ c4 (b3.extBut _ _ c2 (b2.extBut _ _ c3 (b1.extBut _ _ c1 e))))
    have t1' : st1 (k + 1) g5 := S1.keep _ _ _ t1 fun c hc o e => by
      rcases hc with r | r
      · rw [r] at e ⊢; exact b5.extBut _ _ D.TOi1.symm (b4.extBut _ _ D.i12 (b3.extBut _ _ D.TOi1.symm e))
      · rw [r] at e ⊢; exact b5.extBut _ _ D.l1TO (b4.extBut _ _ D.l1i2 (b3.extBut _ _ D.l1TO e))
    have t2' : st2 (k + 1) g5 := S2.keep _ _ _ t2 fun c hc o e => by
      rcases hc with r | r
      · rw [r] at e ⊢; exact b5.extBut _ _ D.TOi2.symm e
      · rw [r] at e ⊢; exact b5.extBut _ _ D.l2TO e
    have zlt : g5.objs.size ≠ z := Nat.ne_of_gt (Heap.lt_size z5)
    refine wpAny_bind (m := Builtin.SmallTypes.ownedTupleHandOut (.ref z) (.ref g5.objs.size)) ?_
    unfold Builtin.SmallTypes.ownedTupleHandOut
    have z6 : IsZipG (g5.push { cls := .type "tuple", data := .seq #[x, y] }) z TI TO .ellipsis f1 := Heap.get?_push_of_some _ z5
    refine wpAny_bind (wpAny_setField_rec z6 (by simp) fun g7 z7 b7 => ?_)
    have z7' : IsZipG g7 z TI TO (rawInt g5.objs.size) f1 := z7
    refine wpAny_setField_rec z7' (by simp) fun g8 z8 b8 => ?_
    have z8' : IsZipG g8 z TI TO (rawInt g5.objs.size) false := z8
    have up : ∀ c o, c ≠ z → g5.get? c = some o → g8.get? c = some o := fun c o c1 e => b8.extBut _ _ c1 (b7.extBut _ _ c1 (Heap.get?_push_of_some _ e))
    have T8 : IsPair g8 g5.objs.size x y := b8.extBut _ _ zlt (b7.extBut _ _ zlt (Heap.get?_push_size _ rfl))
    have sz8 : g8.objs.size = s.heap.objs.size + 1 := by rw [b8.1, b7.1, Heap.size_push, sz]
    rw [sz] at z8' T8
    refine wpAny_pure ⟨_, rfl, ?_⟩
    show Q (.ref g5.objs.size) _
    rw [sz]
    refine hQ g8 x y _ _ px py (.inr ⟨_, _, rfl⟩) z8' ⟨_, _, up _ _ D.TOz o5'⟩ (S1.keep _ _ _ t1' fun c hc o e => up c o (by rcases hc with r | r <;> rw [r]; exact D.i1z; exact D.l1z) e) (S2.keep _ _ _ t2' fun c hc o e => up c o (by rcases hc with r | r <;> rw [r]; exact D.i2z; exact D.l2z) e) T8 sz8 fun c o c1 c2 c3 c4 e => up c o c1 (kp5 c o c1 c2 c3 c4 e)
  · simp only [Bool.false_eq_true, if_false]
    have s1 : st1 k h0 := S1.keep _ _ _ h1 fun c hc o e => b0.extBut c o (by rcases hc with r | r <;> rw [r]; exact D.i1z; exact D.l1z) e
    rw [← Array.forIn_toList]
    simp only [List.forIn_cons, List.forIn_nil]
    refine wpAny_bind (wpAny_bind (wpAny_bind (wpAny_holding ?_)))
    refine wpAny_bind (m := Builtin.SmallTypes.nextOf (.ref i1)) (S1.item _ k _ _ _ k1 s1 fun x g2 px t1 b2 => wpAny_pure ?_)
    refine wpAny_pure ?_
    have s2 : st2 k g2 := S2.keep _ _ _ h2 fun c hc o e => by
      rcases hc with r | r
      · rw [r] at e ⊢; exact b2.extBut _ _ D.i12.symm (b0.extBut _ _ D.i2z e)
      · rw [r] at e ⊢; exact b2.extBut _ _ D.l2i1 (b0.extBut _ _ D.l2z e)
    refine wpAny_bind (wpAny_bind (wpAny_holding ?_))
    refine wpAny_bind (m := Builtin.SmallTypes.nextOf (.ref i2)) (S2.item _ k _ _ _ k2 s2 fun y g4 py t2 b4 => wpAny_pure ?_)
    refine wpAny_pure (wpAny_pure ?_)
    refine wpAny_bind (wpAny_newTuple ?_ (by show 2 ≤ sizeLine; rw [sizeLine_eq]; decide))
    have sz : g4.objs.size = s.heap.objs.size := by rw [b4.1, b2.1, b0.1]
    have z4 : IsZipG g4 z TI TO f0 fb := b4.extBut _ _ D.i2z.symm (b2.extBut _ _ D.i1z.symm hz0)
    have kp4 : ∀ c o, c ≠ z → c ≠ i1 → c ≠ i2 → s.heap.get? c = some o → g4.get? c = some o := fun c o c1 c3 c4 e => b4.extBut _ _ c4 (b2.extBut _ _ c3 (b0.extBut _ _ c1 e))
    have t1' : st1 (k + 1) g4 := S1.keep _ _ _ t1 fun c hc o e => by
      rcases hc with r | r
      · rw [r] at e ⊢; exact b4.extBut _ _ D.i12 e
      · rw [r] at e ⊢; exact b4.extBut _ _ D.l1i2 e
    refine wpAny_pure ⟨_, rfl, ?_⟩
    show Q (.ref g4.objs.size) _
    have T8 : IsPair (g4.push { cls := .type "tuple", data := .seq #[x, y] }) g4.objs.size x y := Heap.get?_push_size _ rfl
    rw [sz] at T8 ⊢
    refine hQ _ x y _ _ px py hf (Heap.get?_push_of_some _ z4) ⟨_, _, Heap.get?_push_of_some _ (kp4 _ _ D.TOz D.TOi1 D.TOi2 hTO)⟩ (S1.keep _ _ _ t1' fun c hc o e => Heap.get?_push_of_some _ e) (S2.keep _ _ _ t2 fun c hc o e => Heap.get?_push_of_some _ e) T8 (by rw [Heap.size_push, sz]) fun c o c1 c2 c3 c4 e => Heap.get?_push_of_some _ (kp4 c o c1 c3 c4 e)
theorem zipEndG {k : Nat} {a b f0 : Value} {f1 : Bool} {Q : Fin → Shared → Prop} (hh : A.handled = none) (D : ZipApart z TI TO i1 i2 l1 l2) (S1 : Sub prog w i1 l1 n1 P1 st1) (S2 : Sub prog w i2 l2 n2 P2 st2)
    (hz : IsZipG s.heap z TI TO f0 f1) (hf : F0 f0) (hTI : IsPair s.heap TI (.ref i1) (.ref i2)) (hTO : IsPair s.heap TO a b) (h1 : st1 k s.heap) (h2 : st2 k s.heap) (hend : k = n1 ∧ k ≤ n2 ∨ k = n2 ∧ k < n1)
    (hE : ∀ h' e, (∀ c o, c ≠ z → c ≠ TO → c ≠ i1 → c ≠ i2 → s.heap.get? c = some o → h'.get? c = some o) → (∃ o, h'.get? e = some o ∧ o.cls = .type "StopIteration") → E (.ref e) { s with heap := h' }) :
    wpAny (model prog w) A (Builtin.«zip.__next__» ⟨[.ref z], []⟩) Q E s := by
  refine wpAny_bind (m := field (.ref z) 2) (wpAny_field hz rfl (x := .bool false) rfl ?_)
  refine wpAny_bind (m := field (.ref z) 3) (wpAny_field hz rfl (x := .ref TI) rfl ?_)
  refine wpAny_bind (wpAny_seqItems hTI rfl ?_)
  refine wpAny_bind (m := Builtin.SmallTypes.ownedTupleIsFree (.ref z)) (isFree hz hf ?_ fun h0 fb hz0 b0 => ?_)
  · simp only [if_true]
    refine wpAny_bind (wpAny_rule ?_)
    refine wpAny_bind (wpAny_field hz rfl (x := .ref TO) rfl ?_)
    refine wpAny_bind (wpAny_setField_rec hz (by simp) fun g1 hz1 b1 => ?_)
    have hz1' : IsZipG g1 z TI TO .ellipsis f1 := hz1
    refine wpAny_bind ?_
    simp only [List.zipIdx_cons, List.zipIdx_nil, List.forIn_cons, List.forIn_nil]
    have s1 : st1 k g1 := S1.keep _ _ _ h1 fun c hc o e => b1.extBut c o (by rcases hc with r | r <;> rw [r]; exact D.i1z; exact D.l1z) e
    refine wpAny_bind (wpAny_bind (wpAny_onRaise ?_))
    have fin : ∀ (g : Heap) (e : Addr) (g0 : Heap), (∃ o, g.get? e = some o ∧ o.cls = .type "StopIteration") → IsZipG g z TI TO .ellipsis f1 → (∀ c o, c ≠ z → c ≠ TO → c ≠ i1 → c ≠ i2 → s.heap.get? c = some o → g.get? c = some o) →
        wpAny (model prog w) A (setField (.ref z) 0 .none) (fun _ s' => E (.ref e) s') E { s with heap := g } := fun g e g0 ⟨oe, hoe, hce⟩ hzz kp => by
      have hez : e ≠ z := fun q => by rw [q, hzz] at hoe; cases hoe; simp at hce
      exact wpAny_setField_rec hzz (by simp) fun g' _ b' => hE g' e (fun c o c1 c2 c3 c4 q => b'.extBut _ _ c1 (kp c o c1 c2 c3 c4 q)) ⟨oe, b'.extBut _ _ hez hoe, hce⟩
    rcases hend with ⟨e1, _⟩ | ⟨e2, k1⟩
    · rw [e1] at s1
      refine wpAny_bind (m := Builtin.SmallTypes.nextOf (.ref i1)) (S1.done _ _ _ _ hh s1 fun g2 e b2 he => ?_)
      exact fin g2 e g1 he (b2 _ _ D.i1z.symm hz1') fun c o c1 _ c3 _ q => b2 _ _ c3 (b1.extBut _ _ c1 q)
    · refine wpAny_bind (m := Builtin.SmallTypes.nextOf (.ref i1)) (S1.item _ k _ _ _ k1 s1 fun x g2 px t1 b2 => wpAny_pure ?_)
      have o2 : IsPair g2 TO a b := b2.extBut _ _ D.TOi1 (b1.extBut _ _ D.TOz hTO)
      refine wpAny_bind (wpAny_seqItems o2 rfl ?_)
      refine wpAny_bind (wpAny_updateSeq_pair o2 fun g3 o3 b3 => ?_)
      refine wpAny_bind (wpAny_letGo (wpAny_pure ?_))
      have s2 : st2 n2 g3 := by
        rw [← e2]
        exact S2.keep _ _ _ h2 fun c hc o e => by
          rcases hc with r | r
          · rw [r] at e ⊢; exact b3.extBut _ _ D.TOi2.symm (b2.extBut _ _ D.i12.symm (b1.extBut _ _ D.i2z e))
          · rw [r] at e ⊢; exact b3.extBut _ _ D.l2TO (b2.extBut _ _ D.l2i1 (b1.extBut _ _ D.l2z e))
      refine wpAny_bind (wpAny_bind (wpAny_onRaise ?_))
      refine wpAny_bind (m := Builtin.SmallTypes.nextOf (.ref i2)) (S2.done _ _ _ _ hh s2 fun g4 e b4 he => ?_)
      exact fin g4 e g3 he (b4 _ _ D.i2z.symm (b3.extBut _ _ D.TOz.symm (b2.extBut _ _ D.i1z.symm hz1'))) fun c o c1 c2 c3 c4 q => b4 _ _ c4 (b3.extBut _ _ c2 (b2.extBut _ _ c3 (b1.extBut _ _ c1 q)))
  · simp only [Bool.false_eq_true, if_false]
    have s1 : st1 k h0 := S1.keep _ _ _ h1 fun c hc o e => b0.extBut c o (by rcases hc with r | r <;> rw [r]; exact D.i1z; exact D.l1z) e
    rw [← Array.forIn_toList]
    simp only [List.forIn_cons, List.forIn_nil]
    refine wpAny_bind (wpAny_bind (wpAny_bind (wpAny_holding ?_)))
    rcases hend with ⟨e1, _⟩ | ⟨e2, k1⟩
    · rw [e1] at s1
      refine wpAny_bind (m := Builtin.SmallTypes.nextOf (.ref i1)) (S1.done _ _ _ _ hh s1 fun g2 e b2 he => ?_)
      exact hE g2 e (fun c o c1 _ c3 _ q => b2 _ _ c3 (b0.extBut _ _ c1 q)) he
    · refine wpAny_bind (m := Builtin.SmallTypes.nextOf (.ref i1)) (S1.item _ k _ _ _ k1 s1 fun x g2 px t1 b2 => wpAny_pure ?_)
      refine wpAny_pure ?_
      have s2 : st2 n2 g2 := by
        rw [← e2]
        exact S2.keep _ _ _ h2 fun c hc o e => by
          rcases hc with r | r
          · rw [r] at e ⊢; exact b2.extBut _ _ D.i12.symm (b0.extBut _ _ D.i2z e)
          · rw [r] at e ⊢; exact b2.extBut _ _ D.l2i1 (b0.extBut _ _ D.l2z e)
      refine wpAny_bind (wpAny_bind (wpAny_holding ?_))
      refine wpAny_bind (m := Builtin.SmallTypes.nextOf (.ref i2)) (S2.done _ _ _ _ hh s2 fun g4 e b4 he => ?_)
      exact hE g4 e (fun c o c1 c2 c3 c4 q => b4 _ _ c4 (b2.extBut _ _ c3 (b0.extBut _ _ c1 q))) he
structure ZipSt (h : Heap) (z TI TO i1 i2 : Addr) : Prop where
  hz : ∃ f0 f1, F0 f0 ∧ IsZipG h z TI TO f0 f1
  ti : IsPair h TI (.ref i1) (.ref i2)
  to : ∃ a b, IsPair h TO a b
end
end L2
set_option Elab.async false
set_option linter.all false
set_option maxRecDepth 100000
namespace L2
open PySem PySem.Spec PyProof.Rows
section
variable {X : Cx} {es : List Expr} {x1 : Nat} {tpos : Pos}
end
end L2
set_option Elab.async false
set_option linter.all false
namespace L2
open PySem
end L2
set_option Elab.async false
set_option linter.all false
namespace L2
open PySem
section
variable {X : Cx} {K : PySem.W.Frag} {pos : Pos}
theorem kIn (hK : X.K = K) : OpR X (compareOp .In) (rIn K false) := by subst hK; exact op_in_seq
end
section
variable {α β γ δ ε ζ η θ ι κ : Type}
end
end L2
set_option Elab.async false
set_option linter.all false
set_option maxRecDepth 100000
namespace L2
open PySem PySem.Spec PyProof.Rows
section
variable {X : Cx}
end
section
variable {K : PySem.W.Frag} {own : Nat} {fr : List Nat} {g : TG} {te : TE} {σ : St} {H : Hp} {Qf : Hp → List V → Prop}
end
end L2
set_option Elab.async false
set_option linter.all false
set_option maxRecDepth 100000
namespace L2
open PySem PySem.Spec PyProof.Rows
structure Tb (L : Bool) (t : SetTable) (n m : Nat) : Prop where
  mask : (t.mask = 7 ∧ n ≤ m) ∨ (t.mask = 31 ∧ n ≤ 18)
  dums : t.dummies = #[]
  plain : t.plain = true
  led : t.led = L
  size : t.place.size = n
  rise : t.place.toList.Pairwise (· < ·)
end L2
set_option Elab.async false
set_option linter.all false
set_option maxRecDepth 100000
namespace L2
open PySem PySem.Spec PyProof.Rows
theorem Tb.full {L : Bool} {t : SetTable} {n : Nat} (T : Tb L t n 5) : (t.tooFull = true ∧ n = 5) ∨ (t.tooFull = false ∧ Tb L t n 4) := by
  have e : t.tooFull = decide (n * 5 ≥ t.mask * 3) := by
    unfold SetTable.tooFull SetTable.fill
    rw [T.size, T.dums]; rfl
  rw [e]
  rcases T.mask with ⟨a, b⟩ | ⟨a, b⟩
  · by_cases h : n = 5
    · exact .inl ⟨decide_eq_true (by rw [a, h]; decide), h⟩
    · exact .inr ⟨decide_eq_false (by omega), ⟨.inl ⟨a, by omega⟩, T.dums, T.plain, T.led, T.size, T.rise⟩⟩
  · exact .inr ⟨decide_eq_false (by omega), ⟨.inr ⟨a, b⟩, T.dums, T.plain, T.led, T.size, T.rise⟩⟩
end L2
set_option Elab.async false
set_option linter.all false
set_option maxRecDepth 100000
namespace L2
open PySem PySem.Spec PyProof.Rows
def ent (p : Int × Tok) : Int × Value := (hashInt p.1, .int p.1 p.2)
def SG (L : Bool) (h : Heap) (a : Addr) (ks : List (Int × Tok)) : Prop := ∃ o ep es t, h.get? a = some o ∧ o.ExactSet ∧ o.data = .set es ep t ∧ es.toList.Perm (ks.map ent) ∧ Tb L t es.size 4
theorem SG.keep {L : Bool} {h h' : Heap} {a : Addr} {l : List (Int × Tok)} (x : SG L h a l) (k : ∀ o, h.get? a = some o → h'.get? a = some o) : SG L h' a l := by
  obtain ⟨o, ep, es, t, e, r⟩ := x
  exact ⟨o, ep, es, t, k o e, r⟩
section
variable {prog : Program} {w : World} {A : Around} {E : Value → Shared → Prop} {s : Shared} {L : Bool} {a : Addr}
structure KsOf (ks : List (Int × Tok)) (ns : List Int) : Prop where
  nd : (ks.map (·.1)).Nodup
  mem : ∀ k, k ∈ ks.map (·.1) ↔ k ∈ ns
  len : ks.length ≤ ns.length
end
end L2
set_option Elab.async false
set_option linter.all false
set_option maxRecDepth 100000
namespace L2
open PySem PySem.Spec PyProof.Rows
section
variable {prog : Program} {w : World} {A : Around} {E : Value → Shared → Prop} {s : Shared} {S : Addr} {o : Obj} {ep : Nat} {es : Array (Int × Value)} {t : SetTable}
end
section
variable {X : Cx}
end
end L2
set_option Elab.async false
set_option linter.all false
set_option maxRecDepth 100000
namespace L2
open PySem PySem.Spec PyProof.Rows
open PySem.AutoSeq1 (wpAny_loadPart')
theorem tuple_mul_one (l : Addr) (items : Array Value) (n : Nat) (dd : Option Addr) (sl : Array (Option Value)) (u : Tok) :
    Meets (Builtin.«tuple.__mul__» ⟨[.ref l, .int 1 u], []⟩) (fun _ R s => s.heap.get? l = some { cls := .type "tuple", dict := dd, data := .seq items n, slots := sl } ∧ R (.ok (.ret (Value.ref l))) s) :=
  .of_wp fun prog w A R s h => by
    obtain ⟨hp, g, d, tk, os⟩ := s
    obtain ⟨hl, h⟩ := h
    have f1 := AutoSeq1.idx_int
    have f2 := AutoSeq1.sub_tuple_tuple
    wp_walk using wpAny_loadPart' hl
    exact ⟨_, rfl, h⟩
theorem tuple_mul_zero (l : Addr) (items : Array Value) (n : Nat) (dd : Option Addr) (sl : Array (Option Value)) (u : Tok) (hne : items.isEmpty = false) :
    Meets (Builtin.«tuple.__mul__» ⟨[.ref l, .int 0 u], []⟩) (fun _ R s => s.heap.get? l = some { cls := .type "tuple", dict := dd, data := .seq items n, slots := sl } ∧ R (.ok (.ret (Value.ref s.heap.objs.size))) { s with heap := s.heap.push { cls := Value.type "tuple", data := Data.seq #[] } }) :=
  .of_wp fun prog w A R s h => by
    obtain ⟨hp, g, d, tk, os⟩ := s
    obtain ⟨hl, h⟩ := h
    have f1 := AutoSeq1.idx_int
    have f2 := AutoSeq1.sub_tuple_tuple
    wp_walk using wpAny_loadPart' hl
    exact ⟨_, rfl, h⟩
theorem tuple_mul_none0 (l : Addr) (items : Array Value) (n : Nat) (dd : Option Addr) (sl : Array (Option Value)) (u : Tok) (hne : items.isEmpty = true) :
    Meets (Builtin.«tuple.__mul__» ⟨[.ref l, .int 0 u], []⟩) (fun _ R s => s.heap.get? l = some { cls := .type "tuple", dict := dd, data := .seq items n, slots := sl } ∧ R (.ok (.ret (Value.ref l))) s) :=
  .of_wp fun prog w A R s h => by
    obtain ⟨hp, g, d, tk, os⟩ := s
    obtain ⟨hl, h⟩ := h
    have f1 := AutoSeq1.idx_int
    have f2 := AutoSeq1.sub_tuple_tuple
    wp_walk using wpAny_loadPart' hl
    exact ⟨_, rfl, h⟩
def rRepN (K : PySem.W.Frag) : R2 := fun x y H Q => ∃ a, ∃ k : Nat, ∃ xs, x = .ref a ∧ y = .int k ∧ SqT K H a xs ∧ k ≤ 1000 ∧ xs.length ≤ 1000 ∧ ∀ p H', Same H H' → SqT K H' p (List.replicate k xs).flatten → Q (.ref p) H'
theorem op_repN {X : Cx} {K : PySem.W.Frag} (hK : X.K = K) : OpR X (binaryOp .Mult) (rRepN K) := by
  intro pins s σ H x y v u Q I rx ry h
  obtain ⟨a, k, xs, rfl, rfl, ha, h2, hz, q⟩ := h
  by_cases h1 : 1 < k
  · exact op_repT hK pins s σ H _ _ v u Q I rx ry ⟨a, k, xs, rfl, rfl, ha, by omega, by omega, hz, q⟩
  subst hK
  cases rx
  obtain ⟨t, rfl⟩ := ry
  obtain ⟨its, r, ⟨⟨cls, dd, data, sl⟩, ho, hc, n, hd⟩, hzz⟩ := I.tuple ha
  simp only at hc hd
  subst hc hd
  refine wpAny_binaryOp_repeat_ref (T := "tuple") (U := "int") (by decide) ⟨_, ho, rfl⟩ (fun s' => typeIs_int s' k t) noFill_tuple_mul PySem.F.fills_int_mul PySem.F.slot_int_rmul repeat_tuple PySem.F.slot_int_index.lookup
    (call_meets PySem.F.slot_int_rmul (typeIs_int s k t) PySem.F.entry_int_rmul (PySem.F.args_int_rmul_2 _ _) (int_rmul_tuple k t a its.toArray n dd sl) ⟨ho, rfl, ⟨_, ho, rfl⟩, ?_⟩)
  rcases (show k = 0 ∨ k = 1 by omega) with rfl | rfl
  · by_cases hx : its = []
    · subst hx
      cases r
      refine call_meets PySem.F.slot_tuple_mul ⟨_, ho, rfl⟩ PySem.F.entry_tuple_mul (PySem.F.args_tuple_mul_2 _ _) (tuple_mul_none0 a _ n dd sl t rfl) ⟨ho, ?_⟩
      exact ⟨.ref a, H, I, rfl, q a H (Same.refl H) ha⟩
    · have hne : its.toArray.isEmpty = false := by
        cases its with
        | nil => exact absurd rfl hx
        | cons _ _ => rfl
      refine call_meets PySem.F.slot_tuple_mul ⟨_, ho, rfl⟩ PySem.F.entry_tuple_mul (PySem.F.args_tuple_mul_2 _ _) (tuple_mul_zero a its.toArray n dd sl t hne) ⟨ho, ?_⟩
      refine ⟨.ref _, _, I.laid (t' := s.toks) (o := .tup []) (fun b ob q => Heap.get?_push_of_some _ q) (Nat.le_refl _) ?_, rfl, q _ _ (Same.new (I.hok.fresh (Nat.le_refl _))) (SqT.of upd_same)⟩
      exact ⟨Nat.zero_le _, [], 0, .nil, Heap.get?_push_size _ rfl⟩
  · refine call_meets PySem.F.slot_tuple_mul ⟨_, ho, rfl⟩ PySem.F.entry_tuple_mul (PySem.F.args_tuple_mul_2 _ _) (tuple_mul_one a its.toArray n dd sl t) ⟨ho, ?_⟩
    exact ⟨.ref a, H, I, rfl, q a H (Same.refl H) (by simpa using ha)⟩
end L2
set_option Elab.async false
set_option linter.all false
set_option maxRecDepth 100000
namespace L2
open PySem PySem.Spec PyProof.Rows
structure Zip3Apart (z TI TO i1 i2 i3 l1 l2 l3 : Addr) : Prop where
  TIz : TI ≠ z
  TOz : TO ≠ z
  i1z : i1 ≠ z
  i2z : i2 ≠ z
  i3z : i3 ≠ z
  TITO : TI ≠ TO
  TIi1 : TI ≠ i1
  TIi2 : TI ≠ i2
  TIi3 : TI ≠ i3
  TOi1 : TO ≠ i1
  TOi2 : TO ≠ i2
  TOi3 : TO ≠ i3
  i12 : i1 ≠ i2
  i13 : i1 ≠ i3
  i23 : i2 ≠ i3
  l1 : ∀ c ∈ [z, TO, i1, i2, i3], l1 ≠ c
  l2 : ∀ c ∈ [z, TO, i1, i2, i3], l2 ≠ c
  l3 : ∀ c ∈ [z, TO, i1, i2, i3], l3 ≠ c
section
variable {prog : Program} {w : World} {A : Around} {E : Value → Shared → Prop} {s : Shared} {z TI TO i1 i2 i3 l1 l2 l3 : Addr} {n n2 n3 : Nat} {P1 P2 P3 : Nat → Value → Prop} {st1 st2 st3 : Nat → Heap → Prop}
end
end L2
set_option Elab.async false
set_option linter.all false
set_option maxRecDepth 100000
namespace L2
open PySem PySem.Spec PyProof.Rows
section
variable (k1 k2 k3 : Sk) (h : Heap) (a b d : Addr)
end
section
variable {X : Cx} {es : List Expr} {x1 : Nat} {tpos : Pos}
end
end L2
set_option Elab.async false
set_option linter.all false
set_option maxRecDepth 100000
namespace L2
open PySem PySem.Spec PyProof.Rows
section
variable {K : PySem.W.Frag} {own : Nat} {fr : List Nat} {g : TG} {te : TE} {σ : St} {H : Hp} {Qf : Hp → List V → Prop}
end
end L2
set_option Elab.async false
set_option linter.all false
set_option maxRecDepth 100000
namespace L2
open PySem PySem.Spec PyProof.Rows
section
variable {X : Cx} {K : PySem.W.Frag}
theorem call_sumT (hc : X.calm = true) : CallR X (.builtin "sum") (fun xs H Q => ∃ (p : Addr) (ns : List Int), xs = [.ref p] ∧ SqT X.K H p (ns.map V.int) ∧ (∀ n ∈ ns, 0 ≤ n ∧ n < 1000000) ∧ ns.length ≤ 1000000 ∧ Q (.int (sumTo ns)) H) := by
  intro pins s σ H xs us Q I r h
  obtain ⟨p, ns, rfl, hx, hb, hlen, q⟩ := h
  obtain ⟨u, rfl, rx⟩ := vals1 r
  cases rx
  obtain ⟨its, rv, pl, hz⟩ := I.tuple hx
  have hl := rv.length
  rw [List.length_map] at hl
  have hlt : p < s.heap.objs.size := by obtain ⟨o, e, _⟩ := pl; exact Heap.lt_size e
  have hval : ∀ (i : Nat) (v : Int), ns[i]? = some v → (ns[i]?).getD 0 = v := fun i v e => by rw [e]; rfl
  have bnd : ∀ (ms : List Int), (∀ n ∈ ms, 0 ≤ n ∧ n < 1000000) → 0 ≤ sumTo ms ∧ sumTo ms ≤ ms.length * 1000000 := fun ms => by
    induction ms with
    | nil => intro _; exact ⟨Int.le_refl _, Int.le_refl _⟩
    | cons a l ih =>
      intro hh
      have h1 := hh a List.mem_cons_self
      have h2 := ih fun n hn => hh n (List.mem_cons_of_mem _ hn)
      have e : sumTo (a :: l) = a + sumTo l := rfl
      rw [e, List.length_cons]
      rw [Int.natCast_add]
      omega
  refine call_sum_walk (wpAny_pyIter_tuple pl ?_)
  refine ⟨s.heap.objs.size, _, _, _, _, _, fun i => (ns[i]?).getD 0, rfl, Walks.tuple (A := X.A.in1) (I.ok.hd hc) s.heap.objs.size p (Nat.ne_of_lt hlt) its.toArray, ⟨⟨_, Heap.get?_push_size _ rfl, rfl, rfl⟩, pl.push _⟩, ?_, ?_, ?_, fun h' tk t' hk => ?_⟩
  · intro b hb'
    rw [Heap.size_push]
    rcases List.mem_cons.mp hb' with e | e
    · rw [e]; exact Nat.lt_succ_self _
    · have e' : b = p := by simpa using e
      rw [e']; exact Nat.lt_succ_of_lt hlt
  · intro i v hP
    have hP' : its[i]? = some v := by simpa using hP
    have hi : i < ns.length := by rw [hl]; exact (List.getElem?_eq_some_iff.mp hP').1
    obtain ⟨w, hw, rw'⟩ := rv.get (i := i) (x := .int ns[i]) (by rw [List.getElem?_map, List.getElem?_eq_getElem hi]; rfl)
    rw [hw] at hP'
    cases hP'
    obtain ⟨t, rfl⟩ := rw'
    exact ⟨t, by show Value.int ns[i] t = Value.int ((ns[i]?).getD 0) t; rw [List.getElem?_eq_getElem hi]; rfl⟩
  · intro j hj
    have hj' : j < ns.length := by rw [hl]; simpa using hj
    have e : ns[j]? = some ns[j] := List.getElem?_eq_getElem hj'
    have h1 := hb _ (List.getElem_mem hj')
    have h2 := bnd (ns.take (j + 1)) fun n hn => hb n (List.mem_of_mem_take hn)
    rw [preSum_take ns _ hval (j + 1) (by omega)]
    have h3 : (ns.take (j + 1)).length ≤ 1000000 := by rw [List.length_take]; omega
    unfold InLong
    have e5 : (fun i : Nat => (ns[i]?).getD 0) j = ns[j] := by show (ns[j]?).getD 0 = _; rw [e]; rfl
    rw [e5]
    have h4 : ((ns.take (j + 1)).length : Int) * 1000000 ≤ 1000000 * 1000000 := by omega
    omega
  · have e : preSum (fun i => (ns[i]?).getD 0) its.toArray.size = sumTo ns := by
      rw [List.size_toArray, ← hl, preSum_take ns _ hval ns.length (Nat.le_refl _), List.take_length]
    rw [e]
    refine ⟨.int _, H, I.kept (h' := h') fun b o e => hk b o ?_ (Heap.get?_push_of_some _ e), ⟨_, rfl⟩, q⟩
    intro z
    have z' : b = s.heap.objs.size := by simpa using z
    exact Nat.lt_irrefl _ (z' ▸ Heap.lt_size e)
theorem call_sumTK (hK : X.K = K) (hc : X.calm = true) : CallR X (.builtin "sum") (fun xs H Q => ∃ (p : Addr) (ns : List Int), xs = [.ref p] ∧ SqT K H p (ns.map V.int) ∧ (∀ n ∈ ns, 0 ≤ n ∧ n < 1000000) ∧ ns.length ≤ 1000000 ∧ Q (.int (sumTo ns)) H) := by subst hK; exact call_sumT hc
end
end L2
set_option Elab.async false
set_option linter.all false
set_option maxRecDepth 100000
namespace L2
open PySem PySem.Spec PyProof.Rows
theorem compLoop_goD {prog : Program} {w : World} {A : Around} {R : Result → Shared → Prop} {s : Shared} {kx vx target iter : Expr} {ifs : List Expr} {scope : Scope} {pos : Pos} {it : Value} {D : Addr} {env : Env} (I : Nat → Shared → Prop)
    (turn : ∀ n s, I n s → wpAny (model prog w) A (pyNext it) (fun r s₁ => match r with
      | none => R (.ok .next) s₁
      | some v => wpAny (model prog w) A (letOwnedTupleGo target it v) (fun _ s₁' => wpAny (model prog w) A (assign target env v) (fun _ s₂ =>
          wpAny (model prog w) A (forIn ifs true fun c r => if r = true then do let ok ← isTrue c env (eval c env); pure (ForInStep.yield ok) else pure (ForInStep.yield r)) (fun ok s₃ =>
            if ok = true then wpAny (model prog w) A (eval kx env) (fun kv s₄ => wpAny (model prog w) A (eval vx env) (fun vv s₅ =>
              wpAny (model prog w) A (dictSet D kv vv) (fun _ s₆ => ∃ m, m < n ∧ I m s₆) (fun _ _ => False) s₅) (fun _ _ => False) s₄) (fun _ _ => False) s₃
            else ∃ m, m < n ∧ I m s₃) (fun _ _ => False) s₂) (fun _ _ => False) s₁') (fun _ _ => False) s₁) (fun _ _ => False) s)
    (n : Nat) (h : I n s) :
    codeAny (model prog w) A (.compLoop (.DictComp kx vx [⟨target, iter, ifs, 0⟩] scope pos) 0 it (.ref D) env) R s := by
  refine codeAny_loop rfl I (fun n s hI => ?_) n h
  show wpAny _ A ((compTurn (.DictComp kx vx [⟨target, iter, ifs, 0⟩] scope pos) 0 it (.ref D) env).onRaise (fun x => do noteFrame x env; theTreesLotGoes x)) _ _ s
  refine wpAny_noted ?_
  rw [compTurn_dict]
  refine wpAny_bind (wpAny_standAt (wpAny_bind (wpAny_mono (turn n s hI) (fun r s₁ h₁ => ?_) fun _ _ h' => h'.elim)))
  cases r with
  | none => exact wpAny_pure h₁
  | some v =>
    refine wpAny_bind (wpAny_mono h₁ (fun _ s₁' h₁' => ?_) fun _ _ h' => h'.elim)
    refine wpAny_bind (wpAny_mono h₁' (fun _ s₂ h₂ => wpAny_bind (wpAny_mono h₂ (fun ok s₃ h₃ => ?_) fun _ _ h' => h'.elim)) fun _ _ h' => h'.elim)
    cases ok with
    | false => exact wpAny_pure ⟨rfl, h₃⟩
    | true =>
      exact wpAny_bind (wpAny_bind (wpAny_mono h₃ (fun kv s₄ h₄ => wpAny_bind (wpAny_holding (wpAny_mono h₄ (fun vv s₅ h₅ => wpAny_bind (wpAny_standAt (wpAny_holding (wpAny_mono h₅ (fun _ s₆ h₆ => wpAny_pure ⟨rfl, h₆⟩) fun _ _ h' => h'.elim)))) fun _ _ h' => h'.elim))) fun _ _ h' => h'.elim))
section
variable {X : Cx} {scope : Scope} {own frn : List Str} {fr : List Nat} {kx vx tg iter : Expr} {ifs : List Expr} {pos : Pos} {wi : TI} {g : TG} {tt : TT} {tk tv : TE}
end
end L2
set_option Elab.async false
set_option linter.all false
set_option maxRecDepth 100000
namespace L2
open PySem PySem.Spec PyProof.Rows
section
variable {X : Cx} {scope : Scope} {own frn : List Str} {fr : List Nat} {e elt tg d : Expr} {ifs : List Expr} {pos : Pos} {t td : TE} {g : TG} {tt : TT} {te : TE}
end
end L2
set_option Elab.async false
set_option linter.all false
set_option maxRecDepth 100000
namespace L2
open PySem PySem.Spec PyProof.Rows
section
variable {X : Cx}
theorem get_list : PGet X (fun x y H Q => ∃ p xs i v, x = .ref p ∧ y = .int i ∧ SqL X.K H p xs ∧ 0 ≤ i ∧ xs[i.toNat]? = some v ∧ Q v H) := by
  intro pins s σ H o i ov iv Q I ro ri h
  obtain ⟨p, xs, k, z, rfl, rfl, hq, h0, he, q⟩ := h
  cases ro
  obtain ⟨t, rfl⟩ := ri
  obtain ⟨its, r, pl, hz⟩ := I.list hq
  obtain ⟨w, ew, rw'⟩ := r.get he
  have hlt : k.toNat < xs.length := (List.getElem?_eq_some_iff.mp he).1
  have hsz : sizeLine < 2 ^ 62 := by rw [sizeLine_eq]; decide
  exact wpAny_getItem_list (Q := EP X pins σ Q) pl.isList h0 (by omega) (by simpa using ew) ⟨z, H, I, rw', q⟩
end
end L2
set_option Elab.async false
set_option linter.all false
set_option maxRecDepth 100000
namespace L2
open PySem PySem.Spec PyProof.Rows
section
variable {X : Cx}
end
end L2
namespace L2
open PySem PySem.Spec PyProof.Rows
section
variable {X : Cx}
end
end L2
set_option Elab.async false
set_option linter.all false
set_option maxRecDepth 100000
namespace L2
open PySem PySem.Spec PyProof.Rows
section
variable {X : Cx}
end
end L2
set_option Elab.async false
set_option linter.all false
set_option maxRecDepth 100000
namespace L2
open PySem PySem.Spec PyProof.Rows
section
variable {P : Program} {w : World} {A : Around} {E : Value → Shared → Prop} {s : Shared} {it d : Addr} {i ep : Nat} {es : Array DictEntry} {ob : Obj}
end
section
variable {X : Cx} {pins : List (Addr × Obj)} {σ : St} {H : Hp} {s : Shared} {a : Addr}
end
theorem KT.length {H : Hp} {kvs : List (List Key × V)} {xs : List (List Key × Addr × Value)} (r : KT H kvs xs) : kvs.length = xs.length := by
  induction r with
  | nil => rfl
  | cons _ _ ih => rw [List.length_cons, List.length_cons, ih]
theorem KT.at {H : Hp} {kvs : List (List Key × V)} {xs : List (List Key × Addr × Value)} (r : KT H kvs xs) : ∀ {i : Nat} {p : List Key × V} {x : List Key × Addr × Value}, kvs[i]? = some p → xs[i]? = some x → p.1 = x.1 ∧ H x.2.1 = some (.tup (p.1.map kV)) := by
  induction r with
  | nil => intro i p x h; simp at h
  | cons h1 _ ih =>
    intro i p x hp hx
    cases i with
    | zero =>
      simp only [List.getElem?_cons_zero, Option.some.injEq] at hp hx
      subst hp hx
      exact ⟨h1.1, h1.2.1⟩
    | succ j =>
      simp only [List.getElem?_cons_succ] at hp hx
      exact ih hp hx
section
variable {X : Cx} {tg : Expr}
end
end L2
set_option Elab.async false
set_option linter.all false
set_option maxRecDepth 100000
namespace L2
open PySem PySem.Spec PyProof.Rows
section
variable {X : Cx} {pos : Pos} {ek ev : Expr} {tk tv : TE}
end
end L2
set_option Elab.async false
set_option linter.all false
set_option maxRecDepth 100000
namespace L2
open PySem PySem.Spec PyProof.Rows
abbrev KE := List Key × Addr × V
def kvE (e : KE) : List Key × V := (e.1, e.2.2)
def Kp (ys : List KE) (H : Hp) : Prop := ∀ e ∈ ys, H e.2.1 = some (.tup (e.1.map kV))
def KY (ys : List KE) (its : List (List Key × Addr × Value)) : Prop := Paired (fun (p : KE) (q : List Key × Addr × Value) => p.1 = q.1 ∧ p.2.1 = q.2.1 ∧ RelV p.2.2 q.2.2) ys its
def DH (P : Program) (w : World) (h : Heap) (D : Addr) (its : List (List Key × Addr × Value)) : Prop := ∃ o es ep, h.get? D = some o ∧ o.ExactDict ∧ o.data = .dict es ep ∧ es.toList = its.map (entryOfKey (tupleKind (mixKind P w))) ∧ (its.map (·.1)).Nodup
theorem Kp.wr {ys : List KE} {H : Hp} {D : Addr} {o : HO} (h : Kp ys H) (n : H D = none) : Kp ys (upd H D o) := fun e he => by
  rw [upd_ne (fun z => by have q := h e he; rw [z, n] at q; cases q)]
  exact h e he
theorem KY.length {ys : List KE} {its : List (List Key × Addr × Value)} (r : KY ys its) : ys.length = its.length := by
  induction r with
  | nil => rfl
  | cons _ _ ih => rw [List.length_cons, List.length_cons, ih]
theorem KY.kt {ys : List KE} {its : List (List Key × Addr × Value)} {H : Hp} (r : KY ys its) : Kp ys H → KT H (ys.map kvE) its := by
  induction r with
  | nil => intro _; exact .nil
  | cons h1 _ ih => intro hp; exact .cons ⟨h1.1, by rw [← h1.2.1]; exact hp _ (List.mem_cons_self ..), h1.2.2⟩ (ih fun e he => hp e (List.mem_cons_of_mem _ he))
theorem KY.snoc {ys : List KE} {its : List (List Key × Addr × Value)} {k : List Key} {b : Addr} {y : V} {v : Value} (r : KY ys its) (h : RelV y v) : KY (ys ++ [(k, b, y)]) (its ++ [(k, b, v)]) := by
  induction r with
  | nil => exact .cons ⟨rfl, rfl, h⟩ .nil
  | cons h1 _ ih => exact .cons h1 ih
theorem KY.keys {ys : List KE} {its : List (List Key × Addr × Value)} (r : KY ys its) : ys.map (·.1) = its.map (·.1) := by
  induction r with
  | nil => rfl
  | cons h1 _ ih => rw [List.map_cons, List.map_cons, ih, h1.1]
theorem DH.at {P : Program} {w : World} {h h' : Heap} {D : Addr} {its : List (List Key × Addr × Value)} (d : DH P w h D its) (k : ∀ o, h.get? D = some o → h'.get? D = some o) : DH P w h' D its := let ⟨o, es, ep, h1, r⟩ := d; ⟨o, es, ep, k _ h1, r⟩
theorem DH.of {P : Program} {w : World} {h : Heap} {D : Addr} {its : List (List Key × Addr × Value)} (d : h.DictOfH (tupleKind (mixKind P w)) D its) : DH P w h D its := let ⟨o, es, ep, h1, h2, h3, h4, _, h5⟩ := d; ⟨o, es, ep, h1, h2, h3, h4, h5⟩
theorem DH.ofH {P : Program} {w : World} {h : Heap} {H : Hp} {D : Addr} {ys : List KE} {its : List (List Key × Addr × Value)} (d : DH P w h D its) (r : KY ys its) (kp : Kp ys H) (ok : HOk P w H h) : h.DictOfH (tupleKind (mixKind P w)) D its := by
  obtain ⟨o, es, ep, h1, h2, h3, h4, h5⟩ := d
  refine ⟨o, es, ep, h1, h2, h3, h4, ?_, h5⟩
  clear h1 h2 h3 h4 h5
  induction r with
  | nil => intro x hx; cases hx
  | @cons p q ps qs hq _ ih =>
    intro x hx
    rcases List.mem_cons.mp hx with e | hx
    · subst e
      exact key_of ok (by rw [← hq.1, ← hq.2.1]; exact kp _ (List.mem_cons_self ..))
    · exact ih (fun e he => kp e (List.mem_cons_of_mem _ he)) x hx
section
variable {X : Cx} {scope : Scope} {own frn : List Str} {fr : List Nat} {kx vx tg iter : Expr} {ifs : List Expr} {pos : Pos} {wi : TI} {g : TG} {tt : TT} {tk tv : TE}
theorem Inv.trackDT {pins : List (Addr × Obj)} {σ : St} {H : Hp} {s : Shared} {D : Addr} {ys : List KE} {its : List (List Key × Addr × Value)} (I : Inv X pins σ H s) (hD : DH X.prog X.w s.heap D its) (hv : KY ys its) (hp : Kp ys H) (hz : ys.length ≤ sizeLine) (hm : (D == sysModules) = false) (hn : H D = none) (hL : D ≠ X.env.locals)
    (h1 : X.s₀.heap.objs.size ≤ D) (h2 : ∀ x c, X.env.cells.lookup x = some c → c ≠ D) (h3 : ∀ p ∈ X.pn ++ pins, p.1 ≠ D) : Inv X pins σ (upd H D (.dT (ys.map kvE))) s := by
  have ne : ∀ b u, H b = some u → b ≠ D := fun b u e z => by rw [z, hn] at e; cases e
  refine I.step (g' := s.gens) (d' := s.drawn) (t' := s.toks) (h' := s.heap) (ch := [D]) (fun b hb => ?_) (fun b o _ _ _ e _ => e) (fun b o _ _ _ e _ => ⟨o.slots, e⟩) (fun b o hc _ n => ?_) (fun b o _ e => ⟨o, e⟩)
    (fun b xs e => by rw [upd_ne (ne b _ e)]; exact e) (fun b o u e => by rw [upd_ne (ne b _ e)]; exact e) (fun b ps e => ⟨#[], by rw [upd_ne (ne b _ e), e]; simp⟩) (fun _ h => h) (fun b u e => ?_) I.bare
  · have e : b = D := by simpa using hb
    subst e
    exact ⟨.inr h1, hL, h2, h3⟩
  · rw [upd_ne (by simpa using hc)]; exact n
  · by_cases hb : b = D
    · subst hb
      rw [upd_same] at e; cases e
      exact ⟨by rw [List.length_map]; exact hz, hm, its, hv.kt (hp.wr hn), hD⟩
    · rw [upd_ne hb] at e
      exact (I.hok b u e).stay (fun c v _ q => q) (fun c q => by rw [upd_ne (ne c _ q)]; exact q) fun c xs q => by rw [upd_ne (ne c _ q)]; exact q
end
section
variable {X : Cx} {scope : Scope} {own frn : List Str} {fr : List Nat} {e elt kx vx tg d : Expr} {ifs : List Expr} {pos : Pos} {t td : TE} {g : TG} {tt : TT} {te tk tv : TE}
end
end L2
set_option Elab.async false
set_option linter.all false
set_option maxRecDepth 100000
namespace L2
open PySem PySem.Spec PyProof.Rows
section
variable {P : Program} {w : World} {A : Around} {E : Value → Shared → Prop} {s : Shared} {it d v : Addr} {i ep : Nat} {es : Array DictEntry} {ob : Obj}
end
theorem KT.vals {H : Hp} {kvs : List (List Key × V)} {xs : List (List Key × Addr × Value)} (r : KT H kvs xs) : ∀ {i : Nat} {p : List Key × V} {x : List Key × Addr × Value}, kvs[i]? = some p → xs[i]? = some x → RelV p.2 x.2.2 := by
  induction r with
  | nil => intro i p x h; simp at h
  | cons h1 _ ih =>
    intro i p x hp hx
    cases i with
    | zero =>
      simp only [List.getElem?_cons_zero, Option.some.injEq] at hp hx
      subst hp hx
      exact h1.2.2
    | succ j =>
      simp only [List.getElem?_cons_succ] at hp hx
      exact ih hp hx
section
variable {X : Cx} {o : Expr} {to : TE} {p apos cpos pos : Pos}
end
end L2
set_option Elab.async false
set_option linter.all false
set_option maxRecDepth 100000
namespace L2
open PySem PySem.Spec PyProof.Rows
structure KsU (ks : List (Int × Tok)) (ns : List Int) : Prop where
  nd : (ks.map (·.1)).Nodup
  mem : ∀ k, k ∈ ks.map (·.1) ↔ k ∈ ns
theorem KsU.old {ks : List (Int × Tok)} {ns : List Int} {k : Int} (h : KsU ks ns) (q : ∃ p ∈ ks, p.1 = k) : KsU ks (ns ++ [k]) := ⟨h.nd, fun x => by
  rw [h.mem, List.mem_append, List.mem_singleton]
  refine ⟨.inl, fun z => ?_⟩
  rcases z with z | z
  · exact z
  · obtain ⟨p, hp, e⟩ := q
    rw [z, ← e]
    exact (h.mem _).mp (List.mem_map.mpr ⟨p, hp, rfl⟩)⟩
theorem KsU.new {ks : List (Int × Tok)} {ns : List Int} {k : Int} {t : Tok} (h : KsU ks ns) (q : ∀ p ∈ ks, p.1 ≠ k) : KsU ((k, t) :: ks) (ns ++ [k]) := ⟨by
  rw [List.map_cons]
  refine List.nodup_cons.mpr ⟨fun m => ?_, h.nd⟩
  obtain ⟨p, hp, e⟩ := List.mem_map.mp m
  exact q p hp e, fun x => by
  rw [List.map_cons, List.mem_cons, h.mem, List.mem_append, List.mem_singleton]
  exact Or.comm⟩
section
variable {prog : Program} {w : World} {A : Around} {E : Value → Shared → Prop} {s : Shared} {L : Bool} {a : Addr}
end
section
variable {X : Cx} {scope : Scope} {own frn : List Str} {fr : List Nat} {elt tg iter : Expr} {ifs : List Expr} {pos : Pos} {wi : TI} {g : TG} {tt : TT} {te : TE}
end
section
variable {X : Cx} {scope : Scope} {own frn : List Str} {fr : List Nat} {elt tg d : Expr} {ifs : List Expr} {pos : Pos} {td : TE} {g : TG} {tt : TT} {te : TE}
end
end L2
set_option Elab.async false
set_option linter.all false
set_option maxRecDepth 100000
namespace L2
open PySem PySem.Spec PyProof.Rows
def rCat3 (K : PySem.W.Frag) : R2 := fun x y H Q => ∃ a b xs ys, x = .ref a ∧ y = .ref b ∧ SqT K H a xs ∧ SqT K H b ys ∧ xs.length + ys.length ≤ sizeLine ∧ (xs = [] → Q (.ref b) H) ∧ (xs ≠ [] → ys = [] → Q (.ref a) H) ∧ (xs ≠ [] → ys ≠ [] → ∀ p, H p = none → Q (.ref p) (upd H p (.tup (xs ++ ys))))
theorem op_cat3 {X : Cx} {K : PySem.W.Frag} (hK : X.K = K) : OpR X (binaryOp .Add) (rCat3 K) := by
  subst hK
  intro pins s σ H x y v u Q I rx ry h
  obtain ⟨a, b, xs, ys, rfl, rfl, ha, hb, hz, q1, q2, q3⟩ := h
  by_cases hx : xs = []
  · have q := q1 hx
    subst hx
    cases rx
    cases ry
    obtain ⟨its, r1, ⟨⟨cls, dd, data, sl⟩, ho, hc, n, hd⟩, _⟩ := I.tuple ha
    obtain ⟨its2, r2, ⟨⟨cls2, dd2, data2, sl2⟩, ho2, hc2, n2, hd2⟩, _⟩ := I.tuple hb
    simp only at hc hd hc2 hd2
    subst hc hd hc2 hd2
    cases r1
    exact concat_meets ⟨_, ho, rfl⟩ ⟨_, ho2, rfl⟩ noFill_tuple_add seq_tuple_add PySem.F.slot_tuple_add PySem.F.entry_tuple_add (PySem.F.args_tuple_add_2 _ _) (tuple_add_nil a b _ _ n n2 dd dd2 sl sl2 rfl) ⟨ho, ho2, ⟨.ref b, H, I, rfl, q⟩⟩
  · exact op_catT pins s σ H _ _ v u Q I rx ry ⟨a, b, xs, ys, rfl, rfl, ha, hb, hx, hz, fun e => q2 hx e, fun e p hp => q3 hx e p hp⟩
theorem cat3_go {K : PySem.W.Frag} {H : Hp} {Q : VK} {a b : Addr} {xs : List V} {y : V} (ha : SqT K H a xs) (hb : H b = some (.tup [y])) (hz : xs.length ≤ 1000) (k : ∀ p H', Same H H' → H' p = some (.tup (xs ++ [y])) → Q (.ref p) H') : rCat3 K (.ref a) (.ref b) H Q :=
  ⟨a, b, xs, [y], rfl, rfl, ha, SqT.of hb, by rw [sizeLine_eq]; show _ + 1 ≤ _; omega, fun e => k b H (Same.refl H) (by rw [e]; exact hb), fun _ e => absurd e (by simp), fun _ _ p hp => k p _ (Same.new hp) upd_same⟩
end L2
set_option Elab.async false
set_option linter.all false
set_option maxRecDepth 100000
namespace L2
open PySem PySem.Spec PyProof.Rows
end L2
set_option Elab.async false
set_option linter.all false
set_option maxRecDepth 100000
namespace L2
open PySem PySem.Spec PyProof.Rows
theorem zip_no_len : typeLookup (.type "zip") "__len__" = pure none := by rw [typeLookup_type, builtinLookup_eq_fast]; kernel_rfl
theorem zip_no_hint : typeLookup (.type "zip") "__length_hint__" = pure none := by rw [typeLookup_type, builtinLookup_eq_fast]; kernel_rfl
structure ZSt (k1 k2 : Sk) (z TI TO i1 i2 l1 l2 : Addr) (i : Nat) (h : Heap) : Prop where
  zp : ∃ f0 f1, F0 f0 ∧ IsZipG h z TI TO f0 f1
  ti : IsPair h TI (.ref i1) (.ref i2)
  to : ∃ x y, IsPair h TO x y
  a1 : ItK k1 h i1 l1 i
  a2 : ItK k2 h i2 l2 i
theorem ZSt.keep {k1 k2 : Sk} {z TI TO i1 i2 l1 l2 : Addr} {i : Nat} {h h' : Heap} (st : ZSt k1 k2 z TI TO i1 i2 l1 l2 i h) (k : ∀ c ∈ [z, TI, TO, i1, i2], ∀ o, h.get? c = some o → h'.get? c = some o) : ZSt k1 k2 z TI TO i1 i2 l1 l2 i h' := by
  obtain ⟨⟨f0, f1, hf, hz⟩, hTI, ⟨x, y, hTO⟩, h1, h2⟩ := st
  exact ⟨⟨f0, f1, hf, k z (by simp) _ hz⟩, k TI (by simp) _ hTI, ⟨x, y, k TO (by simp) _ hTO⟩, h1.at fun o e => k i1 (by simp) o e, h2.at fun o e => k i2 (by simp) o e⟩
theorem ZSt.lt {k1 k2 : Sk} {z TI TO i1 i2 l1 l2 : Addr} {i : Nat} {h : Heap} (st : ZSt k1 k2 z TI TO i1 i2 l1 l2 i h) : ∀ c ∈ [z, TI, TO, i1, i2], c < h.objs.size := by
  intro c hc
  obtain ⟨⟨f0, f1, hf, hz⟩, hTI, ⟨x, y, hTO⟩, h1, h2⟩ := st
  simp only [List.mem_cons, List.not_mem_nil, or_false] at hc
  rcases hc with rfl | rfl | rfl | rfl | rfl
  · exact Heap.lt_size hz
  · exact Heap.lt_size hTI
  · exact Heap.lt_size hTO
  · obtain ⟨o, e, _⟩ := h1.obj; exact Heap.lt_size e
  · obtain ⟨o, e, _⟩ := h2.obj; exact Heap.lt_size e
def Prs (H : Hp) (xs ys zs : List V) : Prop := ∀ (j : Nat) (z : V), zs[j]? = some z → ∃ q x y, z = .ref q ∧ xs[j]? = some x ∧ ys[j]? = some y ∧ H q = some (.tup [x, y])
def ButL (S : Addr) (H H' : Hp) : Prop := ∀ b o, b ≠ S → H b = some o → H' b = some o
theorem ButL.sq {k : Sk} {K : PySem.W.Frag} {S l : Addr} {H H' : Hp} {xs : List V} (e : ButL S H H') (n : l ≠ S) (h : SqK k K H l xs) : SqK k K H' l xs := by
  cases k
  · rcases h with (h | ⟨o, h⟩) | h
    · exact .inl (.inl (e _ _ n h))
    · exact .inl (.inr ⟨o, e _ _ n h⟩)
    · exact .inr h
  · rcases h with (h | ⟨o, h⟩) | h
    · exact .inl (.inl (e _ _ n h))
    · exact .inl (.inr ⟨o, e _ _ n h⟩)
    · exact .inr h
theorem Prs.keep {S : Addr} {H H' : Hp} {xs ys zs ws : List V} (h : Prs H xs ys zs) (hS : H S = some (.lst ws)) (e : ButL S H H') : Prs H' xs ys zs := fun j z hz => by
  obtain ⟨q, x, y, h1, h2, h3, h4⟩ := h j z hz
  exact ⟨q, x, y, h1, h2, h3, e _ _ (fun c => by rw [c, hS] at h4; cases h4) h4⟩
section
variable {X : Cx} {pins : List (Addr × Obj)} {σ : St}
theorem list_zip_loop (hc : X.calm = true) (A : Around) (hA : A.handled = none) {k1 k2 : Sk} {z TI TO i1 i2 l1 l2 S : Addr} {res : Value} {R : Result → Shared → Prop} {xs ys : List V} (DD : ZipApart z TI TO i1 i2 l1 l2) (nS : S ∉ [z, TI, TO, i1, i2]) (n1 : l1 ≠ S) (n2 : l2 ≠ S) (n : Nat) (hn : n = min xs.length ys.length) (hz : n ≤ sizeLine) :
    ∀ (k i : Nat) (s : Shared) (H : Hp) (zs : List V), n - i = k → i ≤ n → Inv X pins σ H s → (∀ c ∈ [z, TI, TO, i1, i2], FpOk X pins H c) → ZSt k1 k2 z TI TO i1 i2 l1 l2 i s.heap → SqK k1 X.K H l1 xs → SqK k2 X.K H l2 ys → H S = some (.lst zs) → zs.length = i → Prs H xs ys zs →
    (∀ s' H' zs', Inv X pins σ H' s' → ButL S H H' → H' S = some (.lst zs') → zs'.length = n → Prs H' xs ys zs' → R (.ok (.ret res)) s') →
    codeAny (model X.prog X.w) A (.builtin "list.extend.loop" ⟨[.ref S, .ref z, res], []⟩) R s := by
  intro k
  induction k with
  | zero =>
    intro i s H zs hk hi I hf st ha hb hS hl hp hR
    have hin : i = n := by omega
    subst hin
    obtain ⟨⟨f0, f1, hf0, hz0⟩, hTI, ⟨x0, y0, hTO⟩, h1, h2⟩ := st
    obtain ⟨its, rv, pa⟩ := I.seqK ha
    obtain ⟨jts, rw', pb⟩ := I.seqK hb
    have la := rv.length
    have lb := rw'.length
    have hT : s.TypeIs (.ref z) "zip" := ⟨_, hz0, rfl⟩
    refine codeAny_builtin F.entry_extend_loop ?_
    rw [Around.under_plainId F.plain_extend_loop _]
    show wpAny _ A.in1 (pyNext (.ref z) >>= _) _ _ s
    refine wpAny_bind ?_
    unfold pyNext
    refine wpAny_bind (wpAny_attempt (wpAny_callSpecial?_slot (name := Str.ofString "__next__") hT PySem.F.slot_zip_next (wpAny_call_entry PySem.F.slot_zip_next hT PySem.F.entry_zip_next
      (zipEndG (A := _) hA DD (subK k1 X.prog X.w i1 l1 its.toArray (Ne.symm DD.l1i1).symm) (subK k2 X.prog X.w i2 l2 jts.toArray DD.l2i2) hz0 hf0 hTI hTO ⟨h1, pa⟩ ⟨h2, pb⟩ (by rw [List.size_toArray, List.size_toArray]; omega) fun h' e kp he => ?_) (PySem.F.args_zip_next_1 _))))
    obtain ⟨oe, hoe, hce⟩ := he
    refine wpAny_bind (wpAny_isInstance (T := "StopIteration") (b := true) ⟨oe, hoe, hce⟩ isSubtype_stop (wpAny_pure ?_))
    refine wpAny_pure (hR _ H zs ?_ (fun _ _ _ e => e) hS hl hp)
    refine I.turnedL (t' := s.toks) [z, TO, i1, i2] (fun c o hc' e => ?_) (fun c hc' => hf c ?_)
    · simp only [List.mem_cons, List.not_mem_nil, or_false, not_or] at hc'
      exact kp c o hc'.1 hc'.2.1 hc'.2.2.1 hc'.2.2.2 e
    · simp only [List.mem_cons, List.not_mem_nil, or_false] at hc' ⊢
      rcases hc' with r | r | r | r
      · exact .inl r
      · exact .inr (.inr (.inl r))
      · exact .inr (.inr (.inr (.inl r)))
      · exact .inr (.inr (.inr (.inr r)))
  | succ k ih =>
    intro i s H zs hk hi I hf st ha hb hS hl hp hR
    have hlt : i < n := by omega
    have hlts := st.lt
    obtain ⟨⟨f0, f1, hf0, hz0⟩, hTI, ⟨x0, y0, hTO⟩, h1, h2⟩ := st
    have hi1 : i < xs.length := by omega
    have hi2 : i < ys.length := by omega
    have hx : xs[i]? = some xs[i] := List.getElem?_eq_getElem hi1
    have hy : ys[i]? = some ys[i] := List.getElem?_eq_getElem hi2
    generalize xs[i] = x at hx
    generalize ys[i] = y at hy
    obtain ⟨its, rv, pa⟩ := I.seqK ha
    obtain ⟨jts, rw', pb⟩ := I.seqK hb
    obtain ⟨u, hu, ru⟩ := rv.get hx
    obtain ⟨v, hv, rv2⟩ := rw'.get hy
    have hT : s.TypeIs (.ref z) "zip" := ⟨_, hz0, rfl⟩
    have hs1 : i < its.toArray.size := by rw [List.size_toArray]; exact (List.getElem?_eq_some_iff.mp hu).1
    have hs2 : i < jts.toArray.size := by rw [List.size_toArray]; exact (List.getElem?_eq_some_iff.mp hv).1
    refine codeAny_builtin F.entry_extend_loop ?_
    rw [Around.under_plainId F.plain_extend_loop _]
    show wpAny _ A.in1 (pyNext (.ref z) >>= _) _ _ s
    refine wpAny_bind ?_
    unfold pyNext
    refine wpAny_bind (wpAny_attempt (wpAny_callSpecial?_slot (name := Str.ofString "__next__") hT PySem.F.slot_zip_next (wpAny_call_entry PySem.F.slot_zip_next hT PySem.F.entry_zip_next
      (zipItemG DD (subK k1 X.prog X.w i1 l1 its.toArray DD.l1i1) (subK k2 X.prog X.w i2 l2 jts.toArray DD.l2i2) hz0 hf0 hTI hTO ⟨h1, pa⟩ ⟨h2, pb⟩ hs1 hs2 fun h' u' v' g0 g1 pu pv hg0 hz' hTO' s1 s2 hT' hsz kp => wpAny_pure ?_) (PySem.F.args_zip_next_1 _))))
    have eu : u' = u := by
      have q : its[i]? = some u' := by simpa using pu
      rw [hu] at q
      exact (Option.some.inj q).symm
    have ev : v' = v := by
      have q : jts[i]? = some v' := by simpa using pv
      rw [hv] at q
      exact (Option.some.inj q).symm
    subst eu ev
    have hf0' := I.hok.fresh (Nat.le_refl s.heap.objs.size)
    have fz := I.fpOk (Nat.le_refl s.heap.objs.size) hf0'
    have I2 : Inv X pins σ H { s with heap := h' } := by
      refine I.turnedL (t' := s.toks) [z, TO, i1, i2] (fun c o hc' e => ?_) (fun c hc' => hf c ?_)
      · simp only [List.mem_cons, List.not_mem_nil, or_false, not_or] at hc'
        exact kp c o hc'.1 hc'.2.1 hc'.2.2.1 hc'.2.2.2 e
      · simp only [List.mem_cons, List.not_mem_nil, or_false] at hc' ⊢
        rcases hc' with r | r | r | r
        · exact .inl r
        · exact .inr (.inr (.inl r))
        · exact .inr (.inr (.inr (.inl r)))
        · exact .inr (.inr (.inr (.inr r)))
    have I3 : Inv X pins σ (upd H s.heap.objs.size (.tup [x, y])) { s with heap := h' } := by
      refine I2.trackO (show ObjOk X.prog X.w _ _ _ (.tup [x, y]) from ⟨by show 2 ≤ sizeLine; rw [sizeLine_eq]; decide, [u', v'], 0, .cons ru (.cons rv2 .nil), hT'⟩) hf0' fz.2.1 I.sz fz.2.2.2.2.1 fz.2.2.2.2.2
    have e3 : ∀ b o, H b = some o → upd H s.heap.objs.size (.tup [x, y]) b = some o := Same.new hf0'
    have qS : S ≠ s.heap.objs.size := fun c => by rw [c, hf0'] at hS; cases hS
    have t3 : upd H s.heap.objs.size (.tup [x, y]) s.heap.objs.size = some (.tup [x, y]) := upd_same
    have hS3 := e3 _ _ hS
    have f3 : ∀ c ∈ [z, TI, TO, i1, i2], FpOk X pins (upd H s.heap.objs.size (.tup [x, y])) c := fun c hc' => ⟨by rw [upd_ne (Nat.ne_of_lt (hlts c hc'))]; exact (hf c hc').1, (hf c hc').2⟩
    generalize upd H s.heap.objs.size (.tup [x, y]) = H3 at I3 e3 t3 hS3 f3
    obtain ⟨zz, kts, nn, r, hkl, e⟩ := I3.lstM hS3
    show wpAny _ A.in1 (updateSeq S (·.push (.ref s.heap.objs.size)) >>= _) _ _ _
    refine wpAny_bind ?_
    have I4 := I3.lset (t' := s.toks) (its' := kts ++ [.ref s.heap.objs.size]) (f := (·.push (.ref s.heap.objs.size))) (ys := zs ++ [.ref s.heap.objs.size]) hS3 e (by simp) (r.append (.cons (show RelV (.ref s.heap.objs.size) (.ref s.heap.objs.size) from rfl) .nil)) (by rw [List.length_append, List.length_singleton]; omega)
    have b4 : ButL S H (upd H3 S (.lst (zs ++ [.ref s.heap.objs.size]))) := fun b o nb q => by rw [upd_ne nb]; exact e3 _ _ q
    refine wpAny_updateSeq e rfl (wpAny_pure ⟨plainId_quiet F.plain_extend_loop _, ih (i + 1) _ (upd H3 S (.lst (zs ++ [.ref s.heap.objs.size]))) (zs ++ [.ref s.heap.objs.size]) (by omega) hlt I4 (fun c hc' => ⟨by rw [upd_ne (fun q : c = S => nS (q ▸ hc'))]; exact (f3 c hc').1, (f3 c hc').2⟩) ?_ (b4.sq n1 ha) (b4.sq n2 hb) upd_same (by rw [List.length_append, List.length_singleton, hl]) ?_ fun s' H' zs' I' b' hS' hl' hp' => hR s' H' zs' I' (fun b o nb q => b' b o nb (b4 b o nb q)) hS' hl' hp'⟩)
      (by rw [List.size_toArray, ← hkl]; omega) (by show (kts.toArray.push _).size ≤ sizeLine + 1; rw [Array.size_push, List.size_toArray, ← hkl]; omega)
    · refine ZSt.keep (h := h') ⟨⟨_, _, hg0, hz'⟩, kp _ _ DD.TIz DD.TITO DD.TIi1 DD.TIi2 hTI, hTO', s1.1, s2.1⟩ fun c hc' o q => ?_
      exact (Heap.get?_update_other _ _ (fun q : S = c => nS (q.symm ▸ hc'))).trans q
    · intro j w hw
      by_cases hj : j < zs.length
      · rw [List.getElem?_append_left hj] at hw
        obtain ⟨q, x', y', g1, g2, g3, g4⟩ := hp j w hw
        exact ⟨q, x', y', g1, g2, g3, b4 _ _ (fun c => by rw [c, hS] at g4; cases g4) g4⟩
      · rw [List.getElem?_append_right (by omega)] at hw
        have hj2 : j - zs.length = 0 := by
          have := (List.getElem?_eq_some_iff.mp hw).1
          rw [List.length_singleton] at this
          omega
        rw [hj2] at hw
        have ej : j = i := by omega
        subst ej
        exact ⟨s.heap.objs.size, x, y, (Option.some.inj hw).symm, hx, hy, by rw [upd_ne (Ne.symm qS)]; exact t3⟩
def tListZip (K : PySem.W.Frag) (k1 k2 : Sk) (ta : TA) : TE := fun σ H Q => ta σ H fun vs H1 => ∃ a b xs ys, vs = [.ref a, .ref b] ∧ SqK k1 K H1 a xs ∧ SqK k2 K H1 b ys ∧ min xs.length ys.length ≤ sizeLine ∧ ∀ p zs H2, Same H1 H2 → H1 p = none → H2 p = some (.lst zs) → zs.length = min xs.length ys.length → Prs H2 xs ys zs → Q (.ref p) H2
theorem pe_listzip (k1 k2 : Sk) {a b : Expr} {ta : TA} {p pos p2 pos2 : Pos} (hc : X.calm = true) (hgl : Gl X "list") (hml : X.mg "list" = none) (hg : Gl X "zip") (hm : X.mg "zip" = none) (ha : PA X [a, b] ta) (hs : starEach [a, b] X.env = [(false, eval a X.env), (false, eval b X.env)] := by rfl) (hs2 : starEach [b] X.env = [(false, eval b X.env)] := by rfl) :
    PE X (.Call (.Name "list" p2) [.Call (.Name "zip" p) [a, b] [] pos] [] pos2) (tListZip X.K k1 k2 ta) := by
  intro pins s σ H Q I h
  refine wpAny_Call_Name_kw (ld_blt (u := .type "list") I hgl hml (by decide +kernel) ?_ (by decide) (by decide))
  refine PyProof.Rows.callWith_type1 ?_ rfl rfl
  show wpAny _ _ (spliced ((false, eval (.Call (.Name "zip" p) [a, b] [] pos) X.env) :: [])) _ _ s
  refine Calls.spliced_cons ?_
  refine Call_ (ld_blt (u := .type "zip") I hg hm (by decide +kernel) (PyProof.Rows.callWith_type1 (thn (ha pos pins s σ H _ I h) fun us s1 hx9 => ?_) (by rw [hs, hs2]) (by rw [hs2]; rfl)))
  obtain ⟨vs, H1, I1, r1, q1⟩ := hx9
  obtain ⟨l1, l2, xs, ys, rfl, hA, hB, hmn, q⟩ := q1
  obtain ⟨u1, u2, rfl, r1', r2'⟩ := vals2 r1
  cases r1'
  cases r2'
  obtain ⟨its, rv, pa⟩ := I1.seqK hA
  obtain ⟨jts, rw', pb⟩ := I1.seqK hB
  refine callType_new PySem.F.called_zip (by decide) (PySem.F.typeCall_zip_2 _ _) (PySem.F.newCall_zip_2 _ _) (fun obj => PySem.F.args_object_init_3 obj _ _) PySem.F.entry_zip_new (zip_made k1 k2 l1 l2 its.toArray jts.toArray) ⟨pa, pb, ?_⟩
  have n1 : (zh1 k1 s1.heap l1).objs.size = s1.heap.objs.size + 1 := Heap.size_push ..
  have n2 : (zh2 k1 k2 s1.heap l1 l2).objs.size = s1.heap.objs.size + 2 := by rw [Heap.size_push, n1]
  have n3 : (zh3 k1 k2 s1.heap l1 l2).objs.size = s1.heap.objs.size + 3 := by rw [Heap.size_push, n2]
  have n4 : (zh4 k1 k2 s1.heap l1 l2).objs.size = s1.heap.objs.size + 4 := by rw [Heap.size_push, n3]
  have n5 : (zh5 k1 k2 s1.heap l1 l2).objs.size = s1.heap.objs.size + 5 := by rw [Heap.size_push, n4]
  have g5 : IsZip (zh5 k1 k2 s1.heap l1 l2) (zh4 k1 k2 s1.heap l1 l2).objs.size (zh2 k1 k2 s1.heap l1 l2).objs.size (zh3 k1 k2 s1.heap l1 l2).objs.size .none := Heap.get?_push_size _ rfl
  have g4 : IsPair (zh5 k1 k2 s1.heap l1 l2) (zh3 k1 k2 s1.heap l1 l2).objs.size .none .none := Heap.get?_push_of_some _ (Heap.get?_push_size _ rfl)
  have g3 : IsPair (zh5 k1 k2 s1.heap l1 l2) (zh2 k1 k2 s1.heap l1 l2).objs.size (.ref s1.heap.objs.size) (.ref (zh1 k1 s1.heap l1).objs.size) := Heap.get?_push_of_some _ (Heap.get?_push_of_some _ (Heap.get?_push_size _ rfl))
  have g2 : ItK k2 (zh5 k1 k2 s1.heap l1 l2) (zh1 k1 s1.heap l1).objs.size l2 0 := (ItK.new k2 (zh1 k1 s1.heap l1) l2).at fun o e => Heap.get?_push_of_some _ (Heap.get?_push_of_some _ (Heap.get?_push_of_some _ e))
  have g1 : ItK k1 (zh5 k1 k2 s1.heap l1 l2) s1.heap.objs.size l1 0 := (ItK.new k1 s1.heap l1).at fun o e => Heap.get?_push_of_some _ (Heap.get?_push_of_some _ (Heap.get?_push_of_some _ (Heap.get?_push_of_some _ e)))
  have kp : ∀ c o, s1.heap.get? c = some o → (zh5 k1 k2 s1.heap l1 l2).get? c = some o := fun c o e => Heap.get?_push_of_some _ (Heap.get?_push_of_some _ (Heap.get?_push_of_some _ (Heap.get?_push_of_some _ (Heap.get?_push_of_some _ e))))
  refine ⟨⟨_, g5, rfl⟩, ?_⟩
  refine Calls.spliced_nil ?_
  rw [n1, n2, n3, n4] at *
  have I2 : Inv X pins σ H1 { s1 with heap := zh5 k1 k2 s1.heap l1 l2 } := I1.kept (t' := s1.toks) kp
  generalize zh5 k1 k2 s1.heap l1 l2 = h5 at *
  have st : ZSt k1 k2 (s1.heap.objs.size + 4) (s1.heap.objs.size + 2) (s1.heap.objs.size + 3) s1.heap.objs.size (s1.heap.objs.size + 1) l1 l2 0 h5 := ⟨⟨.none, false, .inl rfl, g5⟩, g3, ⟨_, _, g4⟩, g1, g2⟩
  have hge : ∀ c ∈ [s1.heap.objs.size + 4, s1.heap.objs.size + 2, s1.heap.objs.size + 3, s1.heap.objs.size, s1.heap.objs.size + 1], s1.heap.objs.size ≤ c ∧ c < s1.heap.objs.size + 5 := fun c hc => by
    simp only [List.mem_cons, List.not_mem_nil, or_false] at hc
    rcases hc with r | r | r | r | r <;> omega
  have hfp : ∀ c ∈ [s1.heap.objs.size + 4, s1.heap.objs.size + 2, s1.heap.objs.size + 3, s1.heap.objs.size, s1.heap.objs.size + 1], FpOk X pins H1 c := fun c hc => I1.fpOk (hge c hc).1 (I1.hok.fresh (hge c hc).1)
  have DD : ZipApart (s1.heap.objs.size + 4) (s1.heap.objs.size + 2) (s1.heap.objs.size + 3) s1.heap.objs.size (s1.heap.objs.size + 1) l1 l2 := by
    have d : ∀ i j : Nat, i ≠ j → s1.heap.objs.size + i ≠ s1.heap.objs.size + j := fun i j h => by omega
    have a1 : ∀ c ∈ [s1.heap.objs.size + 4, s1.heap.objs.size + 2, s1.heap.objs.size + 3, s1.heap.objs.size, s1.heap.objs.size + 1], l1 ≠ c := fun c hc' => I1.seq_ne hA (hfp c hc')
    have a2 : ∀ c ∈ [s1.heap.objs.size + 4, s1.heap.objs.size + 2, s1.heap.objs.size + 3, s1.heap.objs.size, s1.heap.objs.size + 1], l2 ≠ c := fun c hc' => I1.seq_ne hB (hfp c hc')
    exact ⟨d 2 4 (by decide), d 3 4 (by decide), d 0 4 (by decide), d 1 4 (by decide), d 2 3 (by decide), d 2 0 (by decide), d 2 1 (by decide), d 3 0 (by decide), d 3 1 (by decide), d 0 1 (by decide),
      a1 _ (by simp), a1 _ (by simp), a1 _ (by simp), a1 _ (by simp), a2 _ (by simp), a2 _ (by simp), a2 _ (by simp), a2 _ (by simp)⟩
  generalize hzz : s1.heap.objs.size + 4 = z at *
  generalize hTT : s1.heap.objs.size + 2 = TI at *
  generalize hTO' : s1.heap.objs.size + 3 = TO at *
  generalize hi1' : s1.heap.objs.size + 1 = i2 at *
  have hsz : ∀ c ∈ [z, TI, TO, s1.heap.objs.size, i2], c < h5.objs.size := st.lt
  generalize hs5 : ({ s1 with heap := h5 } : Shared) = s5 at I2
  have e5 : s5.heap = h5 := by rw [← hs5]
  rw [← e5] at st hsz g5
  have hT : s5.TypeIs (.ref z) "zip" := ⟨_, g5, rfl⟩
  refine callType_codes (Q₁ := fun obj s₁ => obj = .ref s5.heap.objs.size ∧ s₁ = { s5 with heap := s5.heap.push { cls := .type "list", data := .seq #[] } }) F.called_list (F.typeCall_list_1 _) F.entry_list_init
    (code_list_new _ ⟨rfl, rfl⟩) fun obj s₁ h₁ => ?_
  obtain ⟨rfl, rfl⟩ := h₁
  have I6 := I2.lnew (t' := s5.toks) (ys := []) (its := []) .nil (Nat.zero_le _)
  have hfr := I2.fresh
  have hS6 : upd H1 s5.heap.objs.size (.lst []) s5.heap.objs.size = some (.lst []) := upd_same
  have s6 : Same H1 (upd H1 s5.heap.objs.size (.lst [])) := Same.new hfr
  have hfS := I2.fpOk (H' := H1) (Nat.le_refl s5.heap.objs.size) hfr
  have nl1 : l1 ≠ s5.heap.objs.size := I2.seq_ne hA hfS
  have nl2 : l2 ≠ s5.heap.objs.size := I2.seq_ne hB hfS
  have nS : s5.heap.objs.size ∉ [z, TI, TO, s1.heap.objs.size, i2] := fun c => Nat.lt_irrefl _ (hsz _ c)
  have hf6 : ∀ c ∈ [z, TI, TO, s1.heap.objs.size, i2], FpOk X pins (upd H1 s5.heap.objs.size (.lst [])) c := fun c hc' => ⟨by rw [upd_ne (Nat.ne_of_lt (hsz c hc'))]; exact (hfp c hc').1, (hfp c hc').2⟩
  have st6 : ZSt k1 k2 z TI TO s1.heap.objs.size i2 l1 l2 0 (s5.heap.push { cls := .type "list", data := .seq #[] }) := st.keep fun c _ o e => Heap.get?_push_of_some _ e
  have hS : (s5.heap.push { cls := .type "list", data := .seq #[] }).get? s5.heap.objs.size = some { cls := .type "list", data := .seq #[] } := Heap.get?_push_size _ rfl
  have bl6 : ButL s5.heap.objs.size H1 (upd H1 s5.heap.objs.size (.lst [])) := fun b o _ e => s6 b o e
  refine ⟨⟨_, hS, rfl⟩, F.args_list_init_2 _ _, ?_⟩
  show wpAny _ X.A.in1.in1 (do let old ← Builtin.List.listItems (.ref s5.heap.objs.size); Builtin.List.listUpdate (.ref s5.heap.objs.size) (fun _ => #[]); letGo old.toList.reverse; Builtin.List.listExtendWith (.ref s5.heap.objs.size) (.ref z) .none) _ _ _
  refine wpAny_bind ?_
  unfold Builtin.List.listItems
  refine wpAny_bind (wpAny_seqItems hS rfl (wpAny_pure ?_))
  show wpAny _ X.A.in1.in1 (updateSeq s5.heap.objs.size (fun _ => #[]) >>= fun _ => letGo (#[] : Array Value).toList.reverse >>= fun _ => Builtin.List.listExtendWith (.ref s5.heap.objs.size) (.ref z) .none) _ _ _
  refine wpAny_bind (wpAny_updateSeq hS rfl ?_)
  have I7 := I6.lset (t' := s5.toks) (f := fun _ => #[]) (its' := []) (ys := []) upd_same hS rfl .nil (Nat.zero_le _)
  have hS7 := Heap.get?_update_self (Obj.mapSeq (fun _ => (#[] : Array Value))) hS rfl
  have st7 := st6.keep (h' := (s5.heap.push { cls := .type "list", data := .seq #[] }).update s5.heap.objs.size (Obj.mapSeq (fun _ => (#[] : Array Value)))) fun c hc' o q => (Heap.get?_update_other _ _ (fun q : s5.heap.objs.size = c => nS (q.symm ▸ hc'))).trans q
  have bl7 : ButL s5.heap.objs.size H1 (upd (upd H1 s5.heap.objs.size (.lst [])) s5.heap.objs.size (.lst [])) := fun b o nb e => by rw [upd_ne nb]; exact bl6 b o nb e
  have hf7 : ∀ c ∈ [z, TI, TO, s1.heap.objs.size, i2], FpOk X pins (upd (upd H1 s5.heap.objs.size (.lst [])) s5.heap.objs.size (.lst [])) c := fun c hc' => ⟨by rw [upd_ne (Nat.ne_of_lt (hsz c hc'))]; exact (hf6 c hc').1, (hf6 c hc').2⟩
  have g7 : IsZip ((s5.heap.push { cls := .type "list", data := .seq #[] }).update s5.heap.objs.size (Obj.mapSeq (fun _ => (#[] : Array Value)))) z TI TO .none := (Heap.get?_update_other _ _ (fun q : s5.heap.objs.size = z => nS (by rw [q]; simp))).trans (Heap.get?_push_of_some _ g5)
  refine wpAny_bind (wpAny_letGo ?_)
  generalize (s5.heap.push { cls := .type "list", data := .seq #[] }).update s5.heap.objs.size (Obj.mapSeq (fun _ => (#[] : Array Value))) = h7 at I7 hS7 st7 g7
  have hT7 : ({ s5 with heap := h7 } : Shared).TypeIs (.ref z) "zip" := by obtain ⟨f0, f1, _, hz⟩ := st7.zp; exact ⟨_, hz, rfl⟩
  have neS : s5.heap.objs.size ≠ z := fun e => nS (by rw [e]; simp)
  unfold Builtin.List.listExtendWith
  refine wpAny_bind (wpAny_typeOf hT7 ?_)
  have h1 : Builtin.List.listSameRef (.ref s5.heap.objs.size) (.ref z) = false := by simp [Builtin.List.listSameRef, neS]
  have h2 : (Value.type "zip" == Value.type "list") = false := by decide
  have h3 : (Value.type "zip" == Value.type "tuple") = false := by decide
  simp only [h1, h2, h3, Bool.or_false, Bool.false_eq_true, if_false]
  have key : ∀ (H' : Hp) (h' : Heap), Inv X pins σ H' { s5 with heap := h' } → ButL s5.heap.objs.size H1 H' → (∀ c ∈ [z, TI, TO, s1.heap.objs.size, i2], FpOk X pins H' c) → ZSt k1 k2 z TI TO s1.heap.objs.size i2 l1 l2 0 h' → H' s5.heap.objs.size = some (.lst []) →
      codeAny (model X.prog X.w) X.A.in1 (.builtin "list.extend.loop" ⟨[.ref s5.heap.objs.size, .ref z, .none], []⟩) (wants (fun r s₂ => r = Value.none ∧ EP X pins σ Q (Value.ref s5.heap.objs.size) s₂) X.xe) { s5 with heap := h' } := by
    intro H' h' I' b' f' st' hS'
    refine list_zip_loop hc X.A.in1 (I1.ok.hd hc) DD nS nl1 nl2 _ rfl hmn (min xs.length ys.length - 0) 0 _ H' [] rfl (Nat.zero_le _) I' f' st' (b'.sq nl1 hA) (b'.sq nl2 hB) hS' rfl (fun j w hw => by simp at hw) fun s' H2 zs I8 b8 hS8 hl8 hp8 => ?_
    refine ⟨rfl, .ref s5.heap.objs.size, H2, I8, rfl, q _ zs H2 (fun b o e => ?_) hfr hS8 hl8 hp8⟩
    have nb : b ≠ s5.heap.objs.size := fun c => by rw [c, hfr] at e; cases e
    exact b8 b o nb (b' b o nb e)
  refine wpAny_bind (wpAny_pyIter_zip g7 ?_)
  refine wpAny_bind (wpAny_holding ?_)
  unfold Builtin.List.listLengthHint
  refine wpAny_bind (wpAny_specialOf hT7 zip_no_len ?_)
  show wpAny _ X.A.in1.in1 (specialOf (Value.ref z) (Str.ofString "__length_hint__") >>= _) _ _ _
  refine wpAny_bind (wpAny_specialOf hT7 zip_no_hint ?_)
  refine wpAny_pure ?_
  refine wpAny_ite_split (fun _ => ?_) (fun _ => wpAny_pure ⟨plainId_quiet F.plain_extend_loop _, key _ h7 I7 bl7 hf7 st7 upd_same⟩)
  refine wpAny_bind (wpAny_rule ?_)
  refine wpAny_bind ?_
  show wpAny _ X.A.in1.in1 (updateSeq s5.heap.objs.size (·.push .none) >>= fun _ => updateSeq s5.heap.objs.size (·.pop)) _ _ _
  refine wpAny_bind (wpAny_updateSeq hS7 rfl ?_)
  have I8 := I7.lset (t' := s5.toks) (f := (·.push .none)) (its' := [.none]) (ys := [.non]) upd_same hS7 rfl (.cons rfl .nil) (by rw [sizeLine_eq]; decide)
  have hS8 := Heap.get?_update_self (Obj.mapSeq (·.push Value.none)) hS7 rfl
  refine wpAny_updateSeq (hz := by seq_fits) hS8 rfl ?_
  have I9 := I8.lset (t' := s5.toks) (f := (·.pop)) (its' := []) (ys := []) upd_same hS8 rfl .nil (Nat.zero_le _)
  refine wpAny_pure ⟨plainId_quiet F.plain_extend_loop _, key _ _ I9 (fun b o nb e => ?_) (fun c hc' => ?_) ?_ upd_same⟩
  · rw [upd_ne nb, upd_ne nb]; exact bl7 b o nb e
  · have nc := Nat.ne_of_lt (hsz c hc')
    exact ⟨by rw [upd_ne nc, upd_ne nc]; exact (hf7 c hc').1, (hf7 c hc').2⟩
  · exact st7.keep fun c hc' o q => (Heap.get?_update_other _ _ (fun q : s5.heap.objs.size = c => nS (q.symm ▸ hc'))).trans ((Heap.get?_update_other _ _ (fun q : s5.heap.objs.size = c => nS (q.symm ▸ hc'))).trans q)
end
end L2
set_option Elab.async false
set_option linter.all false
set_option maxRecDepth 100000
namespace L2
open PySem PySem.Spec PyProof.Rows
section
variable {X : Cx}
theorem call_maxTK {K : PySem.W.Frag} (hK : X.K = K) (hc : X.calm = true) : CallR X (.builtin "max") (fun xs H Q => ∃ (p : Addr) (ns : List Int), xs = [.ref p] ∧ SqT K H p (ns.map V.int) ∧ 0 < ns.length ∧ ∀ M, M ∈ ns → (∀ a ∈ ns, a ≤ M) → Q (.int M) H) := by
  subst hK
  intro pins s σ H xs us Q I r h
  obtain ⟨p, ns, rfl, hx, hne, q⟩ := h
  obtain ⟨u, rfl, rx⟩ := vals1 r
  cases rx
  obtain ⟨its, rv, pl, hz⟩ := I.tuple hx
  have hi : IntsAre its ns := intsAre_of rv
  obtain ⟨xs, e⟩ := hi.allInts.items
  have hns : ns = xs.toList.map (·.1) := by
    rw [← hi.numsOf, ← nums_intItems, ← e]
  have hsz : 0 < xs.size := by
    have h3 := hne; rw [hns, List.length_map, Array.length_toList] at h3; exact h3
  rw [e] at pl
  have hlt : p < s.heap.objs.size := by obtain ⟨o, e, _⟩ := pl; exact Heap.lt_size e
  refine call_max_walk (wpAny_pyIter_tuple pl ?_)
  refine ⟨s.heap.objs.size, _, _, _, _, _, _, rfl, Walks.tuple (A := X.A.in1) (I.ok.hd hc) s.heap.objs.size p (Nat.ne_of_lt hlt) (intItems xs), ⟨⟨_, Heap.get?_push_size _ rfl, rfl, rfl⟩, pl.push _⟩, ?_, by simpa [intItems] using hsz, CmpOf.ints_gt (numAt xs) (fun _ _ => intItems_at), fun v h' tk hv hk => ?_⟩
  · intro b hb'
    rw [Heap.size_push]
    rcases List.mem_cons.mp hb' with e | e
    · rw [e]; exact Nat.lt_succ_self _
    · have e' : b = p := by simpa using e
      rw [e']; exact Nat.lt_succ_of_lt hlt
  have hv : (intItems xs)[argBest (fun i j => decide (numAt xs i > numAt xs j)) (xs.size - 1)]? = some v := by simpa [intItems] using hv
  obtain ⟨t, rfl⟩ := intItems_at hv
  obtain ⟨h1, h2⟩ := argBest_gt (numAt xs) (xs.size - 1)
  have hk' : ∀ b o, s.heap.get? b = some o → h'.get? b = some o := fun b o e => by
    refine hk b o (fun hm => ?_) (Heap.get?_push_of_some _ e)
    rcases List.mem_cons.mp hm with e1 | hm
    · exact absurd (e1 ▸ Heap.lt_size e) (Nat.lt_irrefl _)
    · cases hm
  refine ⟨.int _, H, I.kept hk', ⟨_, rfl⟩, q _ ?_ fun a ha => ?_⟩
  · rw [hns, numAt_eq]; exact getD_mem (by rw [List.length_map, Array.length_toList]; omega)
  · rw [hns] at ha
    obtain ⟨j, hj, rfl⟩ := mem_getD ha
    rw [List.length_map, Array.length_toList] at hj
    rw [← numAt_eq]; exact h2 j (by omega)
end
theorem b_max : bootBuiltins "max" = some (.builtin "max") := by decide +kernel
end L2
set_option Elab.async false
set_option linter.all false
set_option maxRecDepth 100000
namespace L2
open PySem PySem.Spec PyProof.Rows
def hasE (ys : List KE) (k : List Key) : Bool := ys.any fun e => decide (e.1 = k)
def putE (ys : List KE) (k : List Key) (b : Addr) (y : V) : List KE := if hasE ys k = true then ys.map (fun e => if e.1 = k then (e.1, e.2.1, y) else e) else ys ++ [(k, b, y)]
theorem putE_len (ys : List KE) (k : List Key) (b : Addr) (y : V) : (putE ys k b y).length ≤ ys.length + 1 := by
  unfold putE
  split
  · rw [List.length_map]; omega
  · rw [List.length_append]; exact Nat.le_refl _
theorem hasE_iff {ys : List KE} {k : List Key} : hasE ys k = true ↔ k ∈ ys.map (·.1) := by
  unfold hasE
  rw [List.any_eq_true, List.mem_map]
  exact ⟨fun ⟨e, h1, h2⟩ => ⟨e, h1, of_decide_eq_true h2⟩, fun ⟨e, h1, h2⟩ => ⟨e, h1, decide_eq_true h2⟩⟩
theorem putE_mem {ys : List KE} {k k' : List Key} {b : Addr} {y : V} : k' ∈ (putE ys k b y).map (·.1) ↔ k' ∈ ys.map (·.1) ∨ k' = k := by
  unfold putE
  split
  · rename_i h
    have e : (ys.map (fun e => if e.1 = k then (e.1, e.2.1, y) else e)).map (·.1) = ys.map (·.1) := by
      rw [List.map_map]
      refine List.map_congr_left fun e _ => ?_
      show (if e.1 = k then (e.1, e.2.1, y) else e).1 = e.1
      split <;> rfl
    rw [e]
    exact ⟨.inl, fun h' => h'.elim id fun z => by rw [z]; exact hasE_iff.mp h⟩
  · rw [List.map_append, List.mem_append]
    exact ⟨fun h => h.imp id fun z => List.mem_singleton.mp z, fun h => h.imp id fun z => List.mem_singleton.mpr z⟩
theorem Kp.put {ys : List KE} {H : Hp} {k : List Key} {b : Addr} {y : V} (h : Kp ys H) (hb : H b = some (.tup (k.map kV))) : Kp (putE ys k b y) H := by
  unfold putE
  split
  · intro e he
    obtain ⟨e0, h0, rfl⟩ := List.mem_map.mp he
    have := h e0 h0
    split
    · exact this
    · exact this
  · intro e he
    rcases List.mem_append.mp he with he | he
    · exact h e he
    · rw [List.mem_singleton.mp he]; exact hb
theorem KY.has {ys : List KE} {its : List (List Key × Addr × Value)} {k : List Key} (r : KY ys its) : hasE ys k = (atKey its k).isSome := by
  rw [Bool.eq_iff_iff, hasE_iff, r.keys]
  unfold atKey
  rw [Option.isSome_map, List.find?_isSome, List.mem_map]
  exact ⟨fun ⟨e, h1, h2⟩ => ⟨e, h1, decide_eq_true h2⟩, fun ⟨e, h1, h2⟩ => ⟨e, h1, of_decide_eq_true h2⟩⟩
theorem KY.mapE {ys : List KE} {its : List (List Key × Addr × Value)} {k : List Key} {y : V} {v : Value} (r : KY ys its) (h : RelV y v) : KY (ys.map (fun e => if e.1 = k then (e.1, e.2.1, y) else e)) (its.map (putAt k v)) := by
  induction r with
  | nil => exact .nil
  | @cons p q ps qs h1 _ ih =>
    refine .cons ?_ ih
    by_cases hk : p.1 = k
    · have e1 : (if p.1 = k then (p.1, p.2.1, y) else p) = (p.1, p.2.1, y) := if_pos hk
      have e2 : putAt k v q = (q.1, q.2.1, v) := if_pos (h1.1 ▸ hk)
      show (if p.1 = k then (p.1, p.2.1, y) else p).1 = (putAt k v q).1 ∧ (if p.1 = k then (p.1, p.2.1, y) else p).2.1 = (putAt k v q).2.1 ∧ RelV (if p.1 = k then (p.1, p.2.1, y) else p).2.2 (putAt k v q).2.2
      rw [e1, e2]
      exact ⟨h1.1, h1.2.1, h⟩
    · have e1 : (if p.1 = k then (p.1, p.2.1, y) else p) = p := if_neg hk
      have e2 : putAt k v q = q := if_neg (fun z => hk (h1.1.trans z))
      show (if p.1 = k then (p.1, p.2.1, y) else p).1 = (putAt k v q).1 ∧ (if p.1 = k then (p.1, p.2.1, y) else p).2.1 = (putAt k v q).2.1 ∧ RelV (if p.1 = k then (p.1, p.2.1, y) else p).2.2 (putAt k v q).2.2
      rw [e1, e2]
      exact h1
theorem KY.stored {ys : List KE} {its : List (List Key × Addr × Value)} {k : List Key} {b : Addr} {y : V} {v : Value} (r : KY ys its) (h : RelV y v) : KY (putE ys k b y) (storedH its k b v) := by
  unfold putE storedH
  rw [r.has]
  split
  · exact r.mapE h
  · exact r.snoc h
def tCompDP (own : Nat) (fr : List Nat) (wi : TI) (g : TG) (tt : TT) (tk tv : TE) : TE := fun σ H Q => wi σ H fun J H1 => ∃ W : Nat → Nat → List KE → St → Hp → Prop, (∃ m, W 0 m [] (blk own fr σ) H1) ∧ ∀ i m ys σ' H, W i m ys σ' H → Kp ys H ∧
  ((J.stop i H ∧ ∀ p, H p = none → Q (.ref p) (upd H p (.dT (ys.map kvE)))) ∨
  (J.go i H ∧ ∃ N : List KE → St → Hp → Prop, (∀ ys' σ2 H2, N ys' σ2 H2 → ∃ m', m' < m ∧ W (i + 1) m' ys' σ2 H2) ∧
    ∀ x H', J.yld i H x H' → g x σ' H' fun σ2 H2 => tt σ2 H2 fun b H3 => if b = true then tk σ2 H3 fun x H4 => tv σ2 H4 fun y H5 => ∃ k b, x = .ref b ∧ H5 b = some (.tup (k.map kV)) ∧ Kp ys H5 ∧ ys.length < sizeLine ∧ N (putE ys k b y) σ2 H5 else N ys σ2 H3))
section
variable {X : Cx} {scope : Scope} {own frn : List Str} {fr : List Nat} {kx vx tg iter : Expr} {ifs : List Expr} {pos : Pos} {wi : TI} {g : TG} {tt : TT} {tk tv : TE}
theorem comp_blockDP {pins : List (Addr × Obj)} {σ : St} {H2 : Hp} {s2 : Shared} {it : Addr} {fp : List Addr} {tn : Nat → Heap → Prop} {J : It} {RR : Value → Addr → Result → Shared → Prop} {E : Value → Shared → Prop} {Q : Hp → List KE → Prop}
    (hu : X.A.units + 1 < cLine) (S : CompOk X scope own fr frn) (hc : X.calm = true) (I2 : Inv X pins σ H2 s2) (T : Turn X.prog X.w X.K tg J fp it tn) (st2 : tn 0 s2.heap) (f2 : ∀ b ∈ fp, FpOk X pins H2 b)
    (hg : ∀ C s0 H0 fp, PG (cxComp X scope (own ++ frn) C s0 H0 fp) tg g) (ht : ∀ C s0 H0 fp, PF (cxComp X scope (own ++ frn) C s0 H0 fp) ifs tt) (hk : ∀ C s0 H0 fp, PE (cxComp X scope (own ++ frn) C s0 H0 fp) kx tk) (he : ∀ C s0 H0 fp, PE (cxComp X scope (own ++ frn) C s0 H0 fp) vx tv)
    (w : ∃ W : Nat → Nat → List KE → St → Hp → Prop, (∃ m, W 0 m [] (blk own.length fr σ) H2) ∧ ∀ i m ys σ' H, W i m ys σ' H → Kp ys H ∧
      ((J.stop i H ∧ Q H ys) ∨
      (J.go i H ∧ ∃ N : List KE → St → Hp → Prop, (∀ ys' σ2 H2, N ys' σ2 H2 → ∃ m', m' < m ∧ W (i + 1) m' ys' σ2 H2) ∧
        ∀ x H', J.yld i H x H' → g x σ' H' fun σ2 H2 => tt σ2 H2 fun b H3 => if b = true then tk σ2 H3 fun x H4 => tv σ2 H4 fun y H5 => ∃ k b, x = .ref b ∧ H5 b = some (.tup (k.map kV)) ∧ Kp ys H5 ∧ ys.length < sizeLine ∧ N (putE ys k b y) σ2 H5 else N ys σ2 H3)))
    (hRR : ∀ (C D : Addr) (s' : Shared) (H' : Hp) (ys : List KE) (its : List (List Key × Addr × Value)) (m : Str → Option Value), s2.heap.objs.size ≤ C → s2.heap.objs.size ≤ D → D ≠ C → s'.heap.Ns C m → H' C = none → H' D = none → DH X.prog X.w s'.heap D its → KY ys its → Kp ys H' → ys.length ≤ sizeLine →
      Inv X pins σ H' s' → Q H' ys → RR (.ref D) C (.ok .next) s') :
    wpAny (model X.prog X.w) X.A newDict (fun acc s₃ => wpAny (model X.prog X.w) X.A (newFunctionEnv scope X.env.globals (clOf X.env scope.names []) [] X.env.qual none .none (some X.env)) (fun cenv s₄ =>
      codeAny (model X.prog X.w) X.A (.compStart (.DictComp kx vx [⟨tg, iter, ifs, 0⟩] scope pos) 0 (.ref it) acc { cenv with scope := relabel scope X.env }) (RR acc cenv.locals) s₄) E s₃) E s2 := by
  obtain ⟨p1, p2, p3, p4, p5, p6, p7⟩ := S.parts
  obtain ⟨W, ⟨m0, w0⟩, turn⟩ := w
  refine wpAny_newObj_type (wpAny_newFunctionEnv p2 (by intro y hy; simp at hy) (fun h₁ hns₁ hsb₁ => ?_) p1)
  dsimp only at hns₁ hsb₁ ⊢
  generalize hH2 : s2.heap.push { cls := .type "dict", dict := none, data := .dict #[] } = HD at hns₁ hsb₁ ⊢
  have hCs : HD.objs.size = s2.heap.objs.size + 1 := by rw [← hH2, Heap.size_push]
  have hDC : s2.heap.objs.size ≠ HD.objs.size := by omega
  have hCle : s2.heap.objs.size ≤ HD.objs.size := by omega
  have below : ∀ b, b < s2.heap.objs.size → b ≠ HD.objs.size ∧ b ≠ s2.heap.objs.size := fun b hb => ⟨by omega, by omega⟩
  have old : ∀ b o, s2.heap.get? b = some o → h₁.get? b = some o := fun b o e => hsb₁.extBut b o (below b (Heap.lt_size e)).1 (Heap.get?_push_of_some _ (hH2 ▸ Heap.get?_push_of_some _ e))
  have hacc : h₁.get? s2.heap.objs.size = some { cls := .type "dict", dict := none, data := .dict #[] } := hsb₁.extBut _ _ hDC (Heap.get?_push_of_some _ (hH2 ▸ Heap.get?_push_size _ rfl))
  have hdict : DH X.prog X.w h₁ s2.heap.objs.size [] := ⟨_, #[], 0, hacc, ⟨rfl, rfl, rfl⟩, rfl, rfl, List.nodup_nil⟩
  have flt : ∀ b ∈ fp, b < s2.heap.objs.size := fun b hb => by
    obtain ⟨o, e, _⟩ := T.obj _ _ st2 b hb
    exact Heap.lt_size e
  generalize hDg : s2.heap.objs.size = D at *
  generalize hCg : HD.objs.size = C at *
  have st3 : tn 0 h₁ := T.keep _ _ _ st2 fun b _ o e => old b o e
  -- facts of the block
  have clsub : ∀ x c, (clOf X.env scope.names []).lookup x = some c → X.env.cells.lookup x = some c := fun x c e => by
    rcases clOf_mem _ _ _ _ (lookup_memS e) with q | q
    · cases q
    · exact q
  have cD : ∀ x c, (clOf X.env scope.names []).lookup x = some c → c ≠ D := fun x c e z => by
    obtain ⟨v, q⟩ := I2.cell x c (clsub x c e)
    exact Nat.lt_irrefl _ (Nat.lt_of_lt_of_le q.lt (by rw [hDg, z]; exact Nat.le_refl _))
  have loop : ∀ s₃ : Shared, s₃ = { s2 with heap := h₁, toks := s2.toks + ([] : List (Str × Value)).length } →
      codeAny (model X.prog X.w) X.A (.compLoop (.DictComp kx vx [⟨tg, iter, ifs, 0⟩] scope pos) 0 (.ref it) (.ref D) (compEnvC scope (clOf X.env scope.names []) C X.env)) (RR (.ref D) C) s₃ := by
    rintro s₃ rfl
    have I3 : Inv (cxComp X scope (own ++ frn) C s2 H2 fp) [(D, _)] (blk own.length fr σ) H2 { s2 with heap := h₁, toks := s2.toks + ([] : List (Str × Value)).length } :=
      inv_comp (m := fun _ => none) I2 S f2 (by rw [hDg]; exact flt) (by rw [hDg]; exact hCle) (hns₁ : h₁.Ns C _) old (by rw [hDg]; exact Nat.le_refl _) hDC hacc (fun v z => by cases z)
    have stat : ∀ {H' : Hp} {pl : List (Addr × Obj)}, (∀ p ∈ pl, p.1 = D) → (∀ b ∈ fp, H' b = none) → ∀ b ∈ fp, FpOk (cxComp X scope (own ++ frn) C s2 H2 fp) pl H' b := fun {H' pl} hpl hn b hb => by
      refine ⟨hn b hb, (below b (flt b hb)).1, fun z => ?_, .inl hb, fun x c e => (f2 b hb).2.2.2.2.1 x c (clsub x c e), fun p hp => ?_⟩
      · have z' : b ∈ frs X.stack := z
        rcases List.mem_cons.mp (I2.stkSub b z') with e | e
        · exact (f2 b hb).2.1 e
        · exact (f2 b hb).2.2.1 e
      · have hp' : p ∈ pl := by simpa [cxComp] using hp
        rw [hpl p hp']
        exact Ne.symm (below b (flt b hb)).2
    refine compLoop_goD (env := compEnvC scope (clOf X.env scope.names []) C X.env) (fun n s' => ∃ i σ' H' ys its o, Inv (cxComp X scope (own ++ frn) C s2 H2 fp) [(D, o)] σ' H' s' ∧ DH X.prog X.w s'.heap D its ∧ KY ys its ∧ ys.length ≤ sizeLine ∧ tn i s'.heap ∧ (∀ b ∈ fp, H' b = none) ∧ W i n ys σ' H') ?_ m0
      ⟨0, _, H2, [], [], _, I3, hdict, .nil, Nat.zero_le _, st3, fun b hb => (f2 b hb).1, w0⟩
    rintro n s5 ⟨i, σ5, H5, ys, its, o, I5, pl5, v5, z5, st5, fr5, w5⟩
    have one : ∀ {o : Obj}, ∀ p ∈ [(D, o)], p.1 = D := fun p hp => by
      have e := List.mem_singleton.mp hp
      rw [e]
    obtain ⟨kp5, tw⟩ := turn i n ys σ5 H5 w5
    rcases tw with ⟨stop, qn⟩ | ⟨go, N, hN, step⟩
    · refine wpAny_mono (T.done (cxComp X scope (own ++ frn) C s2 H2 fp) rfl rfl rfl hc i _ s5 σ5 H5 (fun _ _ => False) I5 (stat one fr5) st5 stop) (fun r s6 hx9 => ?_) fun _ _ z => z
      obtain ⟨hr, I6⟩ := hx9
      subst hr
      obtain ⟨m6, hn6, _⟩ := I6.loc
      have p6 := I6.pin (D, o) (by simp [cxComp])
      have p5' := I5.pin (D, o) (by simp [cxComp])
      have pl6 : DH X.prog X.w s6.heap D its := pl5.at fun o' e => p6.1.trans (p5'.1.symm.trans e)
      have IX : Inv X pins σ H5 s6 := I2.call' (ch := fp) I6.os I6.base I6.hok I6.bare fun b hb => ⟨(f2 b hb).2.2.2.1, (f2 b hb).2.1, (f2 b hb).2.2.2.2.1, (f2 b hb).2.2.2.2.2⟩
      exact hRR C D s6 H5 ys its m6 hCle (Nat.le_refl _) hDC hn6 I6.free p6.2.1 pl6 v5 kp5 z5 IX qn
    · refine wpAny_mono (T.item (cxComp X scope (own ++ frn) C s2 H2 fp) rfl rfl rfl hc i _ s5 σ5 H5 (fun _ _ => False) I5 (stat one fr5) st5 go) (fun r s6 hx9 => ?_) fun _ _ z => z
      obtain ⟨u, hr, h6⟩ := hx9
      subst hr
      refine wpAny_mono h6 (fun _ s7 hx9 => ?_) fun _ _ z => z
      obtain ⟨x, H7, I7, r7, y7, st7, fr7⟩ := hx9
      have I7' := I7.pinned (stat one fr7) (T.obj _ _ st7)
      refine wpAny_mono (hg C s2 H2 fp _ s7 σ5 H7 x u _ I7' r7 (step x H7 y7)) (fun _ s8 hx9 => ?_) fun _ _ z => z
      obtain ⟨σ8, H8, I8, q8⟩ := hx9
      refine wpAny_mono (ht C s2 H2 fp _ s8 σ8 H8 _ I8 q8) (fun b s9 hx9 => ?_) fun _ _ z => z
      obtain ⟨H9, I9, q9⟩ := hx9
      -- what stands of the iterator and of the gathered list behind the tests, behind the item
      have keepT : ∀ {H' : Hp} {s' : Shared} {σ' : St}, Inv (cxComp X scope (own ++ frn) C s2 H2 fp) ([(D, o)] ++ pinsAt fp s7.heap) σ' H' s' → tn (i + 1) s'.heap ∧ (∀ b ∈ fp, H' b = none) ∧ DH X.prog X.w s'.heap D its ∧ H' D = none := fun {H' s' σ'} I' => by
        refine ⟨T.keep _ _ _ st7 fun b hb o e => (I'.pin (b, o) (List.mem_append_right _ (List.mem_append_right _ (mem_pinsAt hb e)))).1, fun b hb => ?_, ?_, ?_⟩
        · obtain ⟨o, e, d⟩ := T.obj _ _ st7 b hb
          exact (I'.pin (b, o) (List.mem_append_right _ (List.mem_append_right _ (mem_pinsAt hb e)))).2.1
        · have p' := I'.pin (D, o) (by simp [cxComp])
          have p5' := I5.pin (D, o) (by simp [cxComp])
          exact pl5.at fun o' e => p'.1.trans (p5'.1.symm.trans e)
        · exact (I'.pin (D, o) (by simp [cxComp])).2.1
      cases b with
      | false =>
        rw [if_neg Bool.false_ne_true] at q9
        rw [if_neg Bool.false_ne_true]
        obtain ⟨m', hm, w'⟩ := hN ys σ8 H9 q9
        obtain ⟨t9, fr9, pl9, _⟩ := keepT I9
        exact ⟨m', hm, i + 1, σ8, H9, ys, its, o, I9.unpinned, pl9, v5, z5, t9, fr9, w'⟩
      | true =>
        rw [if_pos rfl] at q9
        rw [if_pos rfl]
        refine wpAny_mono (hk C s2 H2 fp _ s9 σ8 H9 _ I9 q9) (fun kv s9' hx9 => ?_) fun _ _ z => z
        obtain ⟨xv, H9', I9', r9, q9'⟩ := hx9
        refine wpAny_mono (he C s2 H2 fp _ s9' σ8 H9' _ I9' q9') (fun y s10 hx9 => ?_) fun _ _ z => z
        obtain ⟨yv, H10, I10, r10, k10, b10, ek, hb10, kp10, lt10, q10⟩ := hx9
        subst ek
        cases (show kv = Value.ref b10 from r9)
        obtain ⟨t10, fr10, pl10, hD10⟩ := keepT I10
        have hl := v5.length
        refine wpAny_dictSet_heap (hsz := by rw [← hl]; exact Nat.le_of_lt lt10) (show X.A.units < cLine by omega) (key_of I10.hok hb10) (pl10.ofH v5 kp10 I10.hok) (fun h11 dd11 sb11 => ?_)
        have pl11 : DH X.prog X.w h11 D (storedH its k10 b10 y) := DH.of dd11
        obtain ⟨m', hm, w'⟩ := hN _ σ8 H10 q10
        have I10' : Inv (cxComp X scope (own ++ frn) C s2 H2 fp) [] σ8 H10 s10 := I10.pins_of fun p hp => by cases hp
        have I11 : Inv (cxComp X scope (own ++ frn) C s2 H2 fp) [] σ8 H10 { s10 with heap := h11, toks := s10.toks + (tupleKind (mixKind X.prog X.w)).draws k10 } :=
          I10'.turned (t' := s10.toks + (tupleKind (mixKind X.prog X.w)).draws k10) (it := D) (fun b o hb e => (sb11.2 b hb).trans e) hD10 hDC (.inr (by show s2.heap.objs.size ≤ D; rw [hDg]; exact Nat.le_refl _)) cD (fun p hp => by simp [cxComp] at hp)
        obtain ⟨o11, es11, ep11, ho11, hc11, hd11, _⟩ := id pl11
        have DfsX : D ∉ frs X.stack := fun z => by
          rcases List.mem_cons.mp (I2.stkSub D z) with e | e
          · exact Nat.lt_irrefl _ (Nat.lt_of_lt_of_le I2.lt (by rw [hDg, e]; exact Nat.le_refl _))
          · exact I2.nofs (by rw [hDg]; exact Nat.le_refl _) e
        refine ⟨m', hm, i + 1, σ8, H10, putE ys k10 b10 yv, storedH its k10 b10 y, o11, I11.pins_of fun p hp => ?_, pl11, v5.stored r10, by have := putE_len ys k10 b10 yv; omega, T.keep _ _ _ t10 fun b hb o e => (sb11.2 b (below b (flt b hb)).2).trans e, fr10, w'⟩
        have e := List.mem_singleton.mp hp
        subst e
        exact ⟨ho11, hD10, hDC, DfsX, fun v z => by rw [hd11] at z; cases z⟩
  exact codeAny_compStart_dict (loop _ rfl) (T.self X.A 0 _ _ _ st3 (loop _ rfl))

theorem pe_dcompP (hu : X.A.units + 1 < cLine) (S : CompOk X scope own fr frn) (hc : X.calm = true) (hi : PI X tg iter wi) (hg : ∀ C s0 H0 fp, PG (cxComp X scope (own ++ frn) C s0 H0 fp) tg g) (ht : ∀ C s0 H0 fp, PF (cxComp X scope (own ++ frn) C s0 H0 fp) ifs tt)
    (hk : ∀ C s0 H0 fp, PE (cxComp X scope (own ++ frn) C s0 H0 fp) kx tk) (he : ∀ C s0 H0 fp, PE (cxComp X scope (own ++ frn) C s0 H0 fp) vx tv) (hs : ∀ x, foldedSetIterable iter X.env x = pure x := by intro _; rfl) :
    PE X (.DictComp kx vx [⟨tg, iter, ifs, 0⟩] scope pos) (tCompDP own.length fr wi g tt tk tv) := by
  intro pins s σ H Q I h
  obtain ⟨p1, p2, p3, p4, p5, p6, p7⟩ := S.parts
  rw [arm_eval_DictComp]
  refine wpAny_comprehension_free (use := none) rfl hs (S.clo I) p1 p3 (thn (hi pins s σ H _ I h) fun v s1 h1 => thn h1 fun itv s2 h2 => ?_)
  obtain ⟨it, fp, tn, J, H2, e, I2, T, st2, f2, hw⟩ := h2
  subst e
  refine comp_blockDP (RR := fun acc C => compPost (model X.prog X.w) X.A X.xe none (EP X pins σ Q) acc C) (Q := fun H ys => ∀ p, H p = none → Q (.ref p) (upd H p (.dT (ys.map kvE)))) hu S hc I2 T st2 f2 hg ht hk he hw ?_
  intro C D s' H' ys its m hC hD hDC hns hHC hHD pl v kp z IX q
  have cne : ∀ a, s2.heap.objs.size ≤ a → ∀ x c, X.env.cells.lookup x = some c → c ≠ a := fun a ha x c e z => by
    obtain ⟨v, w⟩ := I2.cell x c e
    exact Nat.lt_irrefl _ (Nat.lt_of_lt_of_le w.lt (by rw [z]; exact ha))
  have pne : ∀ a, s2.heap.objs.size ≤ a → ∀ p ∈ X.pn ++ pins, p.1 ≠ a := fun a ha p hp z => Nat.lt_irrefl _ (Nat.lt_of_lt_of_le (Heap.lt_size (I2.pin p hp).1) (by rw [z]; exact ha))
  have lne : ∀ a, s2.heap.objs.size ≤ a → a ≠ X.env.locals := fun a ha z => Nat.lt_irrefl _ (Nat.lt_of_lt_of_le I2.lt (by rw [← z]; exact ha))
  refine ⟨m, hns, fun h' hs' => ⟨.ref D, upd H' D (.dT (ys.map kvE)), ?_, rfl, q D hHD⟩⟩
  have IT : Inv X pins σ (upd H' D (.dT (ys.map kvE))) s' := IX.trackDT pl v kp z (beq_eq_false_iff_ne.mpr fun e => Nat.lt_irrefl _ (Nat.lt_of_lt_of_le I2.big (by rw [← e]; exact hD))) hHD (lne D hD) (Nat.le_trans I2.sz hD) (cne D hD) (pne D hD)
  exact IT.turned (t' := s'.toks) (it := C) (fun b o hb e => (hs'.2 b hb).trans e) (by rw [upd_ne (Ne.symm hDC)]; exact hHC) (lne C hC) (.inr (Nat.le_trans I2.sz hC)) (cne C hC) (pne C hC)

end
theorem dcomp_listP {K : PySem.W.Frag} {a : Addr} {xs : List V} {own : Nat} {fr : List Nat} {g : TG} {tt : TT} {tk tv : TE} {σ : St} {H : Hp} {Q : Hp → List KE → Prop} (SH : St → Prop) (Pv : Nat → List KE → Hp → Prop) (hn : xs.length ≤ sizeLine) (hσ : SH (blk own fr σ)) (h0 : Pv 0 [] H) (hlen : ∀ i ys H, Pv i ys H → ys.length ≤ i) (hl : ∀ i ys H, Pv i ys H → SqL K H a xs ∧ Kp ys H)
    (hs : ∀ i ys σ x H, xs[i]? = some x → SH σ → Pv i ys H → ys.length < sizeLine → g x σ H fun σ2 H2 => tt σ2 H2 fun c H3 => if c = true then tk σ2 H3 fun x H4 => tv σ2 H4 fun y H5 => ∃ k b, x = .ref b ∧ H5 b = some (.tup (k.map kV)) ∧ Kp ys H5 ∧ ys.length < sizeLine ∧ SH σ2 ∧ Pv (i + 1) (putE ys k b y) H5 else SH σ2 ∧ Pv (i + 1) ys H3)
    (hd : ∀ ys H, Pv xs.length ys H → Q H ys) :
    ∃ W : Nat → Nat → List KE → St → Hp → Prop, (∃ m, W 0 m [] (blk own fr σ) H) ∧ ∀ i m ys σ' H, W i m ys σ' H → Kp ys H ∧
      (((Itl K a).stop i H ∧ Q H ys) ∨
      ((Itl K a).go i H ∧ ∃ N : List KE → St → Hp → Prop, (∀ ys' σ2 H2, N ys' σ2 H2 → ∃ m', m' < m ∧ W (i + 1) m' ys' σ2 H2) ∧
        ∀ x H', (Itl K a).yld i H x H' → g x σ' H' fun σ2 H2 => tt σ2 H2 fun c H3 => if c = true then tk σ2 H3 fun x H4 => tv σ2 H4 fun y H5 => ∃ k b, x = .ref b ∧ H5 b = some (.tup (k.map kV)) ∧ Kp ys H5 ∧ ys.length < sizeLine ∧ N (putE ys k b y) σ2 H5 else N ys σ2 H3)) := by
  refine ⟨fun i m ys σ' H => m = xs.length - i ∧ i ≤ xs.length ∧ SH σ' ∧ Pv i ys H, ⟨xs.length, by simp, Nat.zero_le _, hσ, h0⟩, ?_⟩
  rintro i m ys σ' H ⟨rfl, hi, sh, p⟩
  refine ⟨(hl _ _ _ p).2, ?_⟩
  by_cases hlt : i < xs.length
  · refine .inr ⟨⟨xs, xs[i], (hl _ _ _ p).1, List.getElem?_eq_getElem hlt⟩, fun ys' σ2 H2 => SH σ2 ∧ Pv (i + 1) ys' H2, fun ys' σ2 H2 q => ⟨xs.length - (i + 1), by omega, rfl, hlt, q.1, q.2⟩, fun x H' y => ?_⟩
    obtain ⟨e, y⟩ := y
    subst e
    have := hlen _ _ _ p
    exact hs i ys σ' x _ (y xs (hl _ _ _ p).1) sh p (by omega)
  · have e : i = xs.length := by omega
    subst e
    exact .inl ⟨⟨xs, (hl _ _ _ p).1, Nat.le_refl _⟩, hd _ _ p⟩
section
variable {K : PySem.W.Frag} {own : Nat} {fr : List Nat} {g g2 : TG} {te : TE} {wi2 : TI} {σ : St} {H : Hp} {Q : Hp → List V → Prop}
theorem comp2_list {a : Addr} {xs : List V} (Pv : Nat → List V → St → Hp → Prop) (h0 : Pv 0 [] (blk own fr σ) H) (hl : ∀ i ys σ H, Pv i ys σ H → SqL K H a xs)
    (hs : ∀ i x ys σ H, xs[i]? = some x → Pv i ys σ H → g x σ H fun σ2 H2 => wi2 σ2 H2 fun J2 H3 => ∃ W2 : Nat → Nat → List V → St → Hp → Prop, (∃ m2, W2 0 m2 ys σ2 H3) ∧ ∀ j m2 zs σ3 H4, W2 j m2 zs σ3 H4 → (J2.stop j H4 ∧ Pv (i + 1) zs σ3 H4) ∨ (J2.go j H4 ∧ ∃ N2 : List V → St → Hp → Prop, (∀ zs' σ4 H5, N2 zs' σ4 H5 → ∃ m3, m3 < m2 ∧ W2 (j + 1) m3 zs' σ4 H5) ∧
          ∀ x H', J2.yld j H4 x H' → g2 x σ3 H' fun σ4 H5 => te σ4 H5 fun y H6 => zs.length < sizeLine ∧ N2 (zs ++ [y]) σ4 H6))
    (hd : ∀ ys σ H, Pv xs.length ys σ H → Q H ys) :
    ∃ W : Nat → Nat → List V → St → Hp → Prop, (∃ m, W 0 m [] (blk own fr σ) H) ∧ ∀ i m ys σ' H, W i m ys σ' H →
      ((Itl K a).stop i H ∧ Q H ys) ∨
      ((Itl K a).go i H ∧ ∃ N : List V → St → Hp → Prop, (∀ ys' σ2 H2, N ys' σ2 H2 → ∃ m', m' < m ∧ W (i + 1) m' ys' σ2 H2) ∧
        ∀ x H', (Itl K a).yld i H x H' → g x σ' H' fun σ2 H2 => wi2 σ2 H2 fun J2 H3 => ∃ W2 : Nat → Nat → List V → St → Hp → Prop, (∃ m2, W2 0 m2 ys σ2 H3) ∧ ∀ j m2 zs σ3 H4, W2 j m2 zs σ3 H4 → (J2.stop j H4 ∧ N zs σ3 H4) ∨ (J2.go j H4 ∧ ∃ N2 : List V → St → Hp → Prop, (∀ zs' σ4 H5, N2 zs' σ4 H5 → ∃ m3, m3 < m2 ∧ W2 (j + 1) m3 zs' σ4 H5) ∧
          ∀ x H', J2.yld j H4 x H' → g2 x σ3 H' fun σ4 H5 => te σ4 H5 fun y H6 => zs.length < sizeLine ∧ N2 (zs ++ [y]) σ4 H6)) := by
  refine ⟨fun i m ys σ' H => m = xs.length - i ∧ i ≤ xs.length ∧ Pv i ys σ' H, ⟨xs.length, by simp, Nat.zero_le _, h0⟩, ?_⟩
  rintro i m ys σ' H ⟨rfl, hi, p⟩
  have q := hl _ _ _ _ p
  by_cases hlt : i < xs.length
  · refine .inr ⟨⟨xs, xs[i], q, List.getElem?_eq_getElem hlt⟩, Pv (i + 1), fun ys' σ2 H2 p' => ⟨xs.length - (i + 1), by omega, rfl, hlt, p'⟩, fun x H' y => ?_⟩
    obtain ⟨e, y⟩ := y
    subst e
    exact hs i x ys σ' _ (y xs q) p
  · have e : i = xs.length := by omega
    subst e
    exact .inl ⟨⟨xs, q, Nat.le_refl _⟩, hd _ _ _ p⟩
theorem comp2_tupIn {b : Addr} {zs ys : List V} {σ2 : St} {H3 : Hp} {N : List V → St → Hp → Prop} (Pw : Nat → List V → St → Hp → Prop) (h0 : Pw 0 ys σ2 H3) (hl : ∀ j ys σ H, Pw j ys σ H → SqT K H b zs)
    (hs : ∀ j z ys σ H, zs[j]? = some z → Pw j ys σ H → g2 z σ H fun σ4 H5 => te σ4 H5 fun y H6 => ys.length < sizeLine ∧ Pw (j + 1) (ys ++ [y]) σ4 H6) (hd : ∀ ys σ H, Pw zs.length ys σ H → N ys σ H) :
    ∃ W2 : Nat → Nat → List V → St → Hp → Prop, (∃ m2, W2 0 m2 ys σ2 H3) ∧ ∀ j m2 zs σ3 H4, W2 j m2 zs σ3 H4 → ((Itt K b).stop j H4 ∧ N zs σ3 H4) ∨ ((Itt K b).go j H4 ∧ ∃ N2 : List V → St → Hp → Prop, (∀ zs' σ4 H5, N2 zs' σ4 H5 → ∃ m3, m3 < m2 ∧ W2 (j + 1) m3 zs' σ4 H5) ∧
          ∀ x H', (Itt K b).yld j H4 x H' → g2 x σ3 H' fun σ4 H5 => te σ4 H5 fun y H6 => zs.length < sizeLine ∧ N2 (zs ++ [y]) σ4 H6) := by
  refine ⟨fun j m ys σ H => m = zs.length - j ∧ j ≤ zs.length ∧ Pw j ys σ H, ⟨zs.length, by simp, Nat.zero_le _, h0⟩, ?_⟩
  rintro j m ys σ H ⟨rfl, hj, p⟩
  have q := hl _ _ _ _ p
  by_cases hlt : j < zs.length
  · refine .inr ⟨⟨zs, zs[j], q, List.getElem?_eq_getElem hlt⟩, Pw (j + 1), fun ys' σ2 H2 p' => ⟨zs.length - (j + 1), by omega, rfl, hlt, p'⟩, fun x H' y => ?_⟩
    obtain ⟨e, y⟩ := y
    subst e
    exact hs j x ys σ _ (y zs q) p
  · have e : j = zs.length := by omega
    subst e
    exact .inl ⟨⟨zs, q, Nat.le_refl _⟩, hd _ _ _ p⟩
end
end L2
set_option Elab.async false
set_option linter.all false
set_option maxRecDepth 100000
namespace L2
open PySem PySem.Spec PyProof.Rows
section
variable {X : Cx} {scope : Scope} {own frn : List Str} {fr : List Nat} {elt tg iter tg2 iter2 : Expr} {pos : Pos} {wi wi2 : TI} {g g2 : TG} {te : TE}
theorem ps_setcomp2 {i : Nat} {y : Str} {py spos : Pos} (S : CompOk X scope own fr frn) (hc : X.calm = true) (hN : X.N.Nodup) (hyi : X.N[i]? = some y) (hx : X.env.scope.names.lookup y = some .local)
    (hsw : swapsWith (.ListComp elt [⟨tg, iter, [], 0⟩, ⟨tg2, iter2, [], 0⟩] scope pos) (some (.Name y py)) spos.line X.env = pure true)
    (hi : PI X tg iter wi) (hg : ∀ C s0 H0 fp, PG (cxComp X scope (own ++ frn) C s0 H0 fp) tg g) (hi2 : ∀ C s0 H0 fp, PI (cxComp X scope (own ++ frn) C s0 H0 fp) tg2 iter2 wi2) (hg2 : ∀ C s0 H0 fp, PG (cxComp X scope (own ++ frn) C s0 H0 fp) tg2 g2)
    (he : ∀ C s0 H0 fp, PE (cxComp X scope (own ++ frn) C s0 H0 fp) elt te) (hs : ∀ x, foldedSetIterable iter X.env x = pure x := by intro _; rfl) (hs2 : ∀ C x, foldedSetIterable iter2 (compEnvC scope (clOf X.env scope.names []) C X.env) x = pure x := by intro _ _; rfl) :
    PS X (.Assign [.Name y py] (.ListComp elt [⟨tg, iter, [], 0⟩, ⟨tg2, iter2, [], 0⟩] scope pos) spos) (tAsg (tComp2 own.length fr wi g wi2 g2 te) (gName i)) := by
  intro pins s σ H D I h
  obtain ⟨p1, p2, p3, p4, p5, p6, p7⟩ := S.parts
  rw [exec_Assign_Name_used _ _ _ _ hsw]
  refine wpAny_bind (wpAny_standAt (wpAny_bind ?_))
  show wpAny _ X.A (do let _ ← comprehension (.ListComp elt [⟨tg, iter, [], 0⟩, ⟨tg2, iter2, [], 0⟩] scope pos) scope X.env _ (newList []) false (eval iter X.env) (some (assign (.Name y py) X.env))) _ _ s
  refine wpAny_bind (wpAny_mono (wpAny_comprehension_free (use := some (assign (.Name y py) X.env)) (Q := fun _ s' => SP X pins D .next s') rfl hs (S.clo I) p1 p3 (thn (hi pins s σ H _ I h) fun v s1 h1 => thn h1 fun itv s2 h2 => ?_))
    (fun _ s' hq => wpAny_pure (wpAny_pure hq)) fun _ _ e => e)
  obtain ⟨it, fp, tn, J, H2, e, I2, T, st2, f2, hw⟩ := h2
  subst e
  refine comp_block2 (RR := fun acc C => compPost (model X.prog X.w) X.A X.xe (some (assign (.Name y py) X.env)) (fun _ s' => SP X pins D .next s') acc C) (Q := fun H ys => ∀ p, H p = none → D.nx (σ.set i (some (.ref p))) (upd H p (.lst ys))) S hc I2 T st2 f2 hg hi2 hg2 he hs2 hw ?_
  intro C L s' H' ys its m hC hL hLC hns hHC hHL pl v z IX q
  have cne : ∀ a, s2.heap.objs.size ≤ a → ∀ x c, X.env.cells.lookup x = some c → c ≠ a := fun a ha x c e z => by
    obtain ⟨v, w⟩ := I2.cell x c e
    exact Nat.lt_irrefl _ (Nat.lt_of_lt_of_le w.lt (by rw [z]; exact ha))
  have pne : ∀ a, s2.heap.objs.size ≤ a → ∀ p ∈ X.pn ++ pins, p.1 ≠ a := fun a ha p hp z => Nat.lt_irrefl _ (Nat.lt_of_lt_of_le (Heap.lt_size (I2.pin p hp).1) (by rw [z]; exact ha))
  have lne : ∀ a, s2.heap.objs.size ≤ a → a ≠ X.env.locals := fun a ha z => Nat.lt_irrefl _ (Nat.lt_of_lt_of_le I2.lt (by rw [← z]; exact ha))
  have IT : Inv X pins σ (upd H' L (.lst ys)) s' := IX.track pl v z hHL (lne L hL) (Nat.le_trans I2.sz hL) (cne L hL) (pne L hL)
  show wpAny _ _ (assign (.Name y py) X.env (.ref L)) _ _ s'
  refine wpAny_assign_Name (store_ok2 IT hN hyi (.inl hx) (v := .ref L) rfl (fun s'' I'' hch => ?_) (.inr hx))
  obtain ⟨a, sb, ha⟩ := hch
  have hCa : C ≠ a := by
    rcases ha with e | e
    · rw [e]; exact lne C hC
    · exact Ne.symm (cne C hC y a e)
  refine ⟨m, hns.sameBut sb hCa, fun h' hs' => ⟨σ.set i (some (.ref L)), upd H' L (.lst ys), ?_, q L hHL⟩⟩
  exact I''.turned (t' := s''.toks) (it := C) (fun b o hb e => (hs'.2 b hb).trans e) (by rw [upd_ne (Ne.symm hLC)]; exact hHC) (lne C hC) (.inr (Nat.le_trans I2.sz hC)) (cne C hC) (pne C hC)
end
end L2
set_option Elab.async false
set_option linter.all false
set_option maxRecDepth 100000
namespace L2
open PySem PySem.Spec PyProof.Rows
structure Fn (K : PySem.W.Frag) (mg : Str → Option Value) (x : Str) (st : Stmt) (ps : List Str) (f : Addr) (fd : FuncData) : Prop where
  fn : Fun K x x st f fd
  mgx : mg x = some (.ref f)
  kp : PySem.W.keepIn K (.ref f) = true
  bd : Binds K fd ps []
theorem pe_fn {X : Cx} {x : Str} {st : Stmt} {ps : List Str} {f : Addr} {fd : FuncData} {k : Nat} {sp : Sp} {p pos : Pos} {e : Expr} {es : List Expr} {t : TA} (G : Fn X.K X.mg x st ps f fd) (ok : FnOk X.prog X.w X.K X.mg X.base CX0 k f fd ps sp) (hr : Room k X.A) (hg : Gl X x) (ha : PA X (e :: es) t)
    (hdb : (x == ("__debug__" : Str)) = false := by decide) (he : starEach (e :: es) X.env = (false, eval e X.env) :: starEach es X.env := by rfl) (hpl : (backTo pos (starEach es X.env)).any (·.1) = false := by rfl) :
    PE X (.Call (.Name x p) (e :: es) [] pos) (tCall sp [] E0 t) := pe_call ok hr hg G.mgx G.kp G.bd .nil pass0 ha hdb he hpl
structure Bl (mg : Str → Option Value) : Prop where
  isinstance : mg "isinstance" = none
  int : mg "int" = none
  bool : mg "bool" = none
  tuple : mg "tuple" = none
  list : mg "list" = none
  len : mg "len" = none
  all : mg "all" = none
  zip : mg "zip" = none
  range : mg "range" = none
  sorted : mg "sorted" = none
  set : mg "set" = none
  sum : mg "sum" = none
  repr : mg "repr" = none
  max : mg "max" = none
  min : mg "min" = none
  any : mg "any" = none
  dict : mg "dict" = none
  enumerate : mg "enumerate" = none
  hands : ∃ t, mg "MOST_HANDS" = some (.int 6 t)
  works : ∃ t, mg "MOST_WORKS" = some (.int 12 t)
  mw : ∃ t, mg "MOST_WEIGHT" = some (.int 99 t)
  fh : ∃ t, mg "FEW_HANDS" = some (.int 4 t)
  fw : ∃ t, mg "FEW_WORKS" = some (.int 7 t)
theorem b_isi : bootBuiltins "isinstance" = some (.builtin "isinstance") := by decide +kernel
theorem b_int : bootBuiltins "int" = some (.type "int") := by decide +kernel
theorem b_bool : bootBuiltins "bool" = some (.type "bool") := by decide +kernel
theorem b_tuple : bootBuiltins "tuple" = some (.type "tuple") := by decide +kernel
theorem b_list : bootBuiltins "list" = some (.type "list") := by decide +kernel
theorem b_len : bootBuiltins "len" = some (.builtin "len") := by decide +kernel
theorem b_all : bootBuiltins "all" = some (.builtin "all") := by decide +kernel
theorem b_range : bootBuiltins "range" = some (.type "range") := by decide +kernel
theorem b_sum : bootBuiltins "sum" = some (.builtin "sum") := by decide +kernel
end L2

namespace Ab
open PySem L2
def top (i : Nat) : Stmt := PySem.Challenge.pw_ablehands_k27_bars_looked_at.main.body.getD i (.Pass ⟨0, 0, 0, 0⟩)
abbrev sWhole : Stmt := top 8
abbrev sHands : Stmt := top 9
abbrev sWorkP : Stmt := top 10
abbrev sBookP : Stmt := top 11
abbrev sNeedB : Stmt := top 12
abbrev sAreWt : Stmt := top 15
abbrev sNeedWt : Stmt := top 16
abbrev sWithin : Stmt := top 18
abbrev sSets : Stmt := top 19
abbrev sWDealt : Stmt := top 23
abbrev sNeedF : Stmt := top 24
abbrev sBehind : Stmt := top 25
abbrev sShows : Stmt := top 26
abbrev sGThru : Stmt := top 27
abbrev sLeastM : Stmt := top 28
abbrev sBegins : Stmt := top 29
abbrev sBegEach : Stmt := top 30
abbrev sDoShow : Stmt := top 31
abbrev sCell : Stmt := top 33
abbrev sTape : Stmt := top 34
abbrev sADigit : Stmt := top 35
abbrev sABook : Stmt := top 36
abbrev sAWt : Stmt := top 37
abbrev sASets : Stmt := top 38
abbrev sAHeaps : Stmt := top 39
abbrev sABar : Stmt := top 40
abbrev sAUnder : Stmt := top 41
abbrev sADue : Stmt := top 42
abbrev sAllD : Stmt := top 43
abbrev sGrown : Stmt := top 44
abbrev sAll : Stmt := top 45
abbrev sLaw : Stmt := top 46
def isWhole : PyData → Bool
  | .int _ => true
  | _ => false
def areHands : PyData → Bool
  | .int i => decide (1 ≤ i) && decide (i ≤ 6)
  | _ => false
def risesP (hands : Int) : Int → List PyData → Bool
  | _, [] => true
  | last, .int i :: r => decide (last < i) && decide (i < hands) && risesP hands i r
  | _, _ :: _ => false
def isWork (hands : Int) : PyData → Bool
  | .tuple ds => !ds.isEmpty && risesP hands (-1) ds
  | _ => false
def bookOf : PyData → PyData → Bool
  | .int h, .tuple ws => decide (1 ≤ h) && decide (h ≤ 6) && decide (ws.length ≤ 12) && ws.all (isWork h)
  | _, _ => false
def isBook : PyData → Bool
  | .tuple [dh, dw] => bookOf dh dw
  | _ => false
section
variable {P : Program} {w : World} {K : PySem.W.Frag} {mg : Str → Option Value} {base : Heap}
def spWhole (K : PySem.W.Frag) : Sp := fun vs H Q _ => ∃ x d, vs = [x] ∧ Den K H d x ∧ Q (.bl (isWhole d)) H
theorem scWhole : FnScope ["thing"] ["thing"] (defScope sWhole) := ⟨rfl, rfl, rfl, by decide +kernel, rfl, by decide +kernel, by decide +kernel⟩
theorem ok_whole {f : Addr} {fd : FuncData} (G : Fn K mg "is_whole" sWhole ["thing"] f fd) (B : Bl mg) : FnOk P w K mg base CX0 1 f fd ["thing"] (spWhole K) := by
  refine G.fn.ok scWhole (fun vs H Q E h => ?_) (fun cdv A outer s H vs Q E hr h => ?_)
  · obtain ⟨x, d, rfl, _⟩ := h
    rfl
  · obtain ⟨x, d, rfl, hd, k⟩ := h
    refine ⟨_, pss_one (ps_ret (pe_and (pe_callB call_isi_int rfl B.isinstance b_isi (pa_cons (pv 0) (pa_cons (pe_bltn (v := .ty "int") rfl B.int b_int rfl) pa_nil)))
      (pe_one (pe_not (pe_callB call_isi_bool rfl B.isinstance b_isi (pa_cons (pv 0) (pa_cons (pe_bltn (v := .ty "bool") rfl B.bool b_bool rfl) pa_nil))))))), ?_⟩
    refine ⟨_, rfl, x, kdOf d, rfl, hd.kd, _, rfl, ?_⟩
    refine ite2 (fun c => ?_) (fun c => ?_)
    · refine ⟨_, rfl, x, kdOf d, rfl, hd.kd, _, rfl, ?_⟩
      have e : (!decide (kdOf d = Kd.bl)) = isWhole d := by
        cases d <;> first | rfl | (exfalso; simp [kdOf] at c)
      rw [e]
      exact k
    · have e : false = isWhole d := by
        cases d <;> first | rfl | (exfalso; simp [kdOf] at c)
      rw [e]
      exact k
def spHands (K : PySem.W.Frag) : Sp := fun vs H Q _ => ∃ x d, vs = [x] ∧ Den K H d x ∧ Q (.bl (areHands d)) H
theorem scHands : FnScope ["thing"] ["thing"] (defScope sHands) := ⟨rfl, rfl, rfl, by decide +kernel, rfl, by decide +kernel, by decide +kernel⟩
theorem ok_hands {f fW : Addr} {fd fdW : FuncData} (G : Fn K mg "are_hands" sHands ["thing"] f fd) (B : Bl mg) (W : Fn K mg "is_whole" sWhole ["thing"] fW fdW) : FnOk P w K mg base CX0 2 f fd ["thing"] (spHands K) := by
  have GW : FnOk P w K mg base CX0 1 fW fdW ["thing"] (spWhole K) := ok_whole W B
  obtain ⟨t6, h6⟩ := B.hands
  refine G.fn.ok scHands (fun vs H Q E h => ?_) (fun cdv A outer s H vs Q E hr h => ?_)
  · obtain ⟨x, d, rfl, _⟩ := h
    rfl
  · obtain ⟨x, d, rfl, hd, k⟩ := h
    refine ⟨_, pss_one (ps_ret (pe_and (pe_fn W GW hr rfl (pa_cons (pv 0) pa_nil))
      (pe_one (pe_chain op_le op_le pe_int (pv 0) (pe_glob (v := .int 6) rfl h6 ⟨t6, rfl⟩))))), ?_⟩
    refine ⟨_, rfl, x, d, rfl, hd, _, rfl, ?_⟩
    refine ite2 (fun c => ?_) (fun c => ?_)
    · obtain ⟨i, rfl⟩ : ∃ i, d = .int i := by cases d <;> first | exact ⟨_, rfl⟩ | (exfalso; simp [isWhole] at c)
      obtain rfl := den_int.mp hd
      refine ⟨_, rfl, _, _, rfl, rfl, _, rfl, ?_⟩
      refine ite2 (fun c1 => ?_) (fun c1 => ?_)
      · refine ⟨_, _, rfl, rfl, ?_⟩
        have e : decide (i ≤ 6) = areHands (.int i) := by
          show _ = (decide (1 ≤ i) && decide (i ≤ 6))
          rw [c1, Bool.true_and]
        show Q (.bl (decide (i ≤ 6))) H
        rw [e]; exact k
      · have e : false = areHands (.int i) := by
          show _ = (decide (1 ≤ i) && decide (i ≤ 6))
          have c2 : decide (1 ≤ i) = false := by simpa using c1
          rw [c2, Bool.false_and]
        rw [e]; exact k
    · have e : false = areHands d := by cases d <;> first | rfl | (exfalso; simp [isWhole] at c)
      rw [e]; exact k
theorem risesP_cons_int (h l i : Int) (r : List PyData) : risesP h l (.int i :: r) = (decide (l < i) && decide (i < h) && risesP h i r) := by rw [risesP]
theorem risesP_cons_no (h l : Int) (d : PyData) (r : List PyData) (n : isWhole d = false) : risesP h l (d :: r) = false := by
  cases d <;> first | rfl | (simp [isWhole] at n)
def spWorkP (K : PySem.W.Frag) : Sp := fun vs H Q _ => ∃ n x d, vs = [.int n, x] ∧ Den K H d x ∧ Q (.bl (isWork n d)) H
theorem scWorkP : FnScope ["hands", "thing", "last", "hand"] ["hands", "thing"] (defScope sWorkP) := ⟨rfl, rfl, rfl, by decide +kernel, rfl, by decide +kernel, by decide +kernel⟩
theorem ok_workP {f fW : Addr} {fd fdW : FuncData} (G : Fn K mg "is_work" sWorkP ["hands", "thing"] f fd) (B : Bl mg) (W : Fn K mg "is_whole" sWhole ["thing"] fW fdW) : FnOk P w K mg base CX0 2 f fd ["hands", "thing"] (spWorkP K) := by
  have GW : FnOk P w K mg base CX0 1 fW fdW ["thing"] (spWhole K) := ok_whole W B
  refine G.fn.ok scWorkP (fun vs H Q E h => ?_) (fun cdv A outer s H vs Q E hr h => ?_)
  · obtain ⟨n, x, d, rfl, _⟩ := h
    rfl
  · obtain ⟨n, x, d, rfl, hd, k⟩ := h
    refine ⟨_, pss_cons (ps_if (PW.pt (pw_or (pt_not (pt_val (pe_callB call_isi_tuple rfl B.isinstance b_isi (pa_cons (pv 1) (pa_cons (pe_bltn (v := .ty "tuple") rfl B.tuple b_tuple rfl) pa_nil)))))
        (pw_or1 (pt_cmpR op_eq (pe_callB call_len_seq rfl B.len b_len (pa_cons (pv 1) pa_nil)) pe_int (nomark _))))) (pss_one (ps_ret pe_bl)) pss_nil)
      (pss_cons (ps_set (i := 2) scWorkP.nd rfl (Or.inl rfl) (pe_un un_neg pe_int))
      (pss_cons (ps_for PassesOwn.never rfl (pi_tup (pv 1)) (pg_name (i := 3) scWorkP.nd rfl (Or.inl rfl))
        (pss_cons (ps_if (PW.pt (pw_or (pt_not (pt_val (pe_fn W GW hr rfl (pa_cons (pv 3) pa_nil)))) (pw_or (pt_cmpR op_le (pv 3) (pv 2) (nomark _)) (pw_or1 (pt_cmpR op_ge (pv 3) (pv 0) (nomark _)))))) (pss_one (ps_ret pe_bl)) pss_nil)
        (pss_one (ps_set (i := 2) scWorkP.nd rfl (Or.inl rfl) (pv 3)))))
      (pss_one (ps_ret pe_bl)))), ?_⟩
    refine ⟨_, rfl, x, kdOf d, rfl, hd.kd, _, rfl, ?_⟩
    refine ite2 (fun c => ?_) (fun c => ?_)
    · -- not a tuple
      refine iteT ?_
      have e : false = isWork n d := by
        cases d <;> first | rfl | (exfalso; simp [kdOf] at c)
      rw [e]; exact k
    · obtain ⟨ds, rfl⟩ : ∃ ds, d = .tuple ds := by cases d <;> first | exact ⟨_, rfl⟩ | (exfalso; simp [kdOf] at c)
      obtain ⟨a, xs, rfl, ha, hds⟩ := den_tuple.mp hd
      have hl := denAll_length hds
      refine ⟨_, rfl, a, xs, rfl, .inr ha, rfl, _, rfl, ?_⟩
      refine ite2 (fun c2 => ?_) (fun c2 => ?_)
      · have e : false = isWork n (.tuple ds) := by
          have e1 : ds = [] := by
            have : (xs.length : Int) = 0 := by simpa using c2
            exact List.length_eq_zero_iff.mp (by omega)
          rw [e1]; rfl
        rw [e]; exact k
      · have hne : ds ≠ [] := by
          intro z
          apply c2
          rw [z] at hl
          simp [hl]
        have e0 : isWork n (.tuple ds) = risesP n (-1) ds := by
          show (!ds.isEmpty && risesP n (-1) ds) = _
          cases ds with
          | nil => exact absurd rfl hne
          | cons _ _ => rfl
        rw [e0] at k
        refine ⟨_, rfl, ?_⟩
        refine ⟨_, rfl, a, rfl, ⟨xs, ha⟩, for_tup (K := K) (a := a) (xs := xs) (fun i σ H2 => ∃ (last : Int) (v : Option V), σ = [some (.int n), some (.ref a), some (.int last), v] ∧ H2 = H ∧ risesP n (-1) ds = risesP n last (ds.drop i))
          ⟨-1, none, rfl, rfl, rfl⟩ (fun i σ H2 _ ⟨_, _, _, e, _⟩ => by rw [e]; exact ha) ?_ ?_⟩
        · rintro i y σ H2 hi ⟨last, v, rfl, rfl, hr2⟩
          obtain ⟨dy, hdy, hden⟩ := denAll_at hds hi
          have hdrop : ds.drop i = dy :: ds.drop (i + 1) := by
            obtain ⟨hlt, e⟩ := List.getElem?_eq_some_iff.mp hdy
            rw [List.drop_eq_getElem_cons hlt, e]
          rw [hdrop] at hr2
          refine ⟨_, rfl, y, dy, rfl, hden, _, rfl, ?_⟩
          refine ite2 (fun c3 => ?_) (fun c3 => ?_)
          · refine iteT ?_
            have e : false = risesP n (-1) ds := by rw [hr2, risesP_cons_no]; simpa using c3
            rw [e]; exact k
          · obtain ⟨j, rfl⟩ : ∃ j, dy = .int j := by cases dy <;> first | exact ⟨_, rfl⟩ | (exfalso; simp [isWhole] at c3)
            obtain rfl := den_int.mp hden
            rw [risesP_cons_int] at hr2
            refine ⟨_, rfl, _, rfl, _, _, rfl, rfl, _, rfl, ?_⟩
            refine ite2 (fun c4 => ?_) (fun c4 => ?_)
            · refine iteT ?_
              have c4' : j ≤ last := of_decide_eq_true c4
              have e : false = risesP n (-1) ds := by rw [hr2, decide_eq_false (by omega : ¬ last < j)]; rfl
              rw [e]; exact k
            · have c4' : ¬ j ≤ last := fun z => c4 (decide_eq_true z)
              refine ⟨_, rfl, _, rfl, _, _, rfl, rfl, _, rfl, ?_⟩
              refine ite2 (fun c5 => ?_) (fun c5 => ?_)
              · have c5' : n ≤ j := of_decide_eq_true c5
                have e : false = risesP n (-1) ds := by rw [hr2, decide_eq_false (by omega : ¬ j < n), Bool.and_false]; rfl
                rw [e]; exact k
              · have c5' : ¬ n ≤ j := fun z => c5 (decide_eq_true z)
                refine ⟨_, rfl, j, some (.int j), rfl, rfl, ?_⟩
                rw [hr2, decide_eq_true (by omega : last < j), decide_eq_true (by omega : j < n)]
                rfl
        · rintro σ H2 ⟨last, v, rfl, rfl, hr2⟩
          have e : true = risesP n (-1) ds := by
            rw [hr2, hl, List.drop_length]
            rfl
          show Q (.bl true) _
          rw [e]; exact k
end
end Ab
set_option Elab.async false
set_option linter.all false
set_option maxRecDepth 100000
namespace Ab
open PySem L2
theorem nameAll_go {i : Nat} {x : V} {σ : St} {H : Hp} {A B : St → Hp → Prop} (h : A (σ.set i (some x)) H) : gName i x σ H fun σ2 H2 => tAll σ2 H2 fun b H3 => if b = true then A σ2 H3 else B σ2 H3 := by
  show if true = true then A (σ.set i (some x)) H else B (σ.set i (some x)) H
  exact iteT h
section
variable {P : Program} {w : World} {K : PySem.W.Frag} {mg : Str → Option Value} {base : Heap}
def spBookP (K : PySem.W.Frag) : Sp := fun vs H Q _ => ∃ x d, vs = [x] ∧ Den K H d x ∧ ∀ H', Same H H' → Q (.bl (isBook d)) H'
theorem scBookP : FnScope ["thing", "hands", "works"] ["thing"] (defScope sBookP) := ⟨rfl, rfl, rfl, by decide +kernel, rfl, by decide +kernel, by decide +kernel⟩
theorem ok_bookP {f fW fH fK : Addr} {fd fdW fdH fdK : FuncData} (G : Fn K mg "is_book" sBookP ["thing"] f fd) (B : Bl mg) (W : Fn K mg "is_whole" sWhole ["thing"] fW fdW) (GH : Fn K mg "are_hands" sHands ["thing"] fH fdH) (GK : Fn K mg "is_work" sWorkP ["hands", "thing"] fK fdK) : FnOk P w K mg base CX0 3 f fd ["thing"] (spBookP K) := by
  have OH : FnOk P w K mg base CX0 2 fH fdH ["thing"] (spHands K) := ok_hands GH B W
  have OK : FnOk P w K mg base CX0 2 fK fdK ["hands", "thing"] (spWorkP K) := ok_workP GK B W
  obtain ⟨t12, h12⟩ := B.works
  refine G.fn.ok scBookP (fun vs H Q E h => ?_) (fun cdv A outer s H vs Q E hr h => ?_)
  · obtain ⟨x, d, rfl, _⟩ := h
    rfl
  · obtain ⟨x, d, rfl, hd, k⟩ := h
    refine ⟨_, pss_cons (ps_if (PW.pt (pw_or (pt_not (pt_val (pe_callB call_isi_tuple rfl B.isinstance b_isi (pa_cons (pv 0) (pa_cons (pe_bltn (v := .ty "tuple") rfl B.tuple b_tuple rfl) pa_nil)))))
        (pw_or1 (pt_cmpR op_ne (pe_callB call_len_seq rfl B.len b_len (pa_cons (pv 0) pa_nil)) pe_int (nomark _))))) (pss_one (ps_ret pe_bl)) pss_nil)
      (pss_cons (ps_asg (pv 0) (pg_tup rfl (pgs_cons (pg_name (i := 1) scBookP.nd rfl (Or.inr rfl)) (pgs_cons (pg_name (i := 2) scBookP.nd rfl (Or.inl rfl)) pgs_nil))))
      (pss_cons (ps_if (pt_not (pt_val (pe_fn GH OH hr rfl (pa_cons (pv 1) pa_nil)))) (pss_one (ps_ret pe_bl)) pss_nil)
      (pss_cons (ps_if (PW.pt (pw_or (pt_not (pt_val (pe_callB call_isi_tuple rfl B.isinstance b_isi (pa_cons (pv 2) (pa_cons (pe_bltn (v := .ty "tuple") rfl B.tuple b_tuple rfl) pa_nil)))))
        (pw_or1 (pt_cmpR op_gt (pe_callB call_len_seq rfl B.len b_len (pa_cons (pv 2) pa_nil)) (pe_glob (v := .int 12) rfl h12 ⟨t12, rfl⟩) (nomark _))))) (pss_one (ps_ret pe_bl)) pss_nil)
      (pss_one (ps_ret (pe_callB (call_all rfl) rfl B.all b_all (pa_cons
        (pe_comp (own := ["work"]) (fr := [1]) (frn := ["hands"]) (compOk_of (defScope sBookP) ["thing", "hands", "works"] rfl rfl (by decide +kernel)) rfl (pi_tup (pv 2))
          (fun _ _ _ _ => pg_name (i := 0) (show (["work", "hands"] : List Str).Nodup by decide +kernel) rfl (Or.inl rfl)) (fun _ _ _ _ => pf_nil) (fun _ _ _ _ => pe_fn GK OK hr rfl (pa_cons (pv 1) (pa_cons (pv 0) pa_nil)))) pa_nil))))))), ?_⟩
    refine ⟨_, rfl, x, kdOf d, rfl, hd.kd, _, rfl, ?_⟩
    refine ite2 (fun c => ?_) (fun c => ?_)
    · refine iteT ?_
      have e : false = isBook d := by
        cases d <;> first | rfl | (exfalso; simp [kdOf] at c)
      rw [e]; exact k H (Same.refl H)
    · obtain ⟨ds, rfl⟩ : ∃ ds, d = .tuple ds := by cases d <;> first | exact ⟨_, rfl⟩ | (exfalso; simp [kdOf] at c)
      obtain ⟨a, xs, rfl, ha, hds⟩ := den_tuple.mp hd
      have hl := denAll_length hds
      refine ⟨_, rfl, a, xs, rfl, .inr ha, rfl, _, rfl, ?_⟩
      refine ite2 (fun c2 => ?_) (fun c2 => ?_)
      · have e : false = isBook (.tuple ds) := by
          match ds, hl, c2 with
          | [], _, _ => rfl
          | [_], _, _ => rfl
          | [_, _], hl, c2 => exfalso; rw [hl] at c2; simp at c2
          | _ :: _ :: _ :: _, _, _ => rfl
        rw [e]; exact k H (Same.refl H)
      · obtain ⟨dh, dw, rfl⟩ : ∃ dh dw, ds = [dh, dw] := by
          match ds, hl, c2 with
          | [], hl, c2 => exfalso; rw [hl] at c2; simp at c2
          | [_], hl, c2 => exfalso; rw [hl] at c2; simp at c2
          | [p, q], _, _ => exact ⟨p, q, rfl⟩
          | p :: q :: r :: t, hl, c2 => exfalso; apply c2; rw [hl]; simp; omega
        obtain ⟨xh, r1, rfl, hh, h2⟩ := denAll_cons.mp hds
        obtain ⟨xw, r2, rfl, hw, h3⟩ := denAll_cons.mp h2
        obtain rfl := denAll_nil.mp h3
        -- hands, works = thing
        refine ⟨_, rfl, a, _, rfl, ha, rfl, _, _, rfl, _, _, rfl, rfl, ?_⟩
        -- are_hands(hands)
        refine ⟨_, rfl, xh, dh, rfl, hh, _, rfl, ?_⟩
        refine ite2 (fun c3 => ?_) (fun c3 => ?_)
        · have e : false = isBook (.tuple [dh, dw]) := by
            have c3' : areHands dh = false := by simpa using c3
            cases dh with
            | int n =>
              cases dw with
              | tuple ws =>
                have c4 : (decide (1 ≤ n) && decide (n ≤ 6)) = false := c3'
                show _ = (decide (1 ≤ n) && decide (n ≤ 6) && decide (ws.length ≤ 12) && ws.all (isWork n))
                rw [c4]; rfl
              | _ => rfl
            | _ => rfl
          rw [e]; exact k H (Same.refl H)
        · obtain ⟨n, rfl, hn⟩ : ∃ n, dh = .int n ∧ (decide (1 ≤ n) && decide (n ≤ 6)) = true := by
            cases dh <;> first | exact ⟨_, rfl, by simpa [areHands] using c3⟩ | (exfalso; simp [areHands] at c3)
          obtain rfl := den_int.mp hh
          refine ⟨_, rfl, xw, kdOf dw, rfl, hw.kd, _, rfl, ?_⟩
          refine ite2 (fun c5 => ?_) (fun c5 => ?_)
          · refine iteT ?_
            have e : false = isBook (.tuple [.int n, dw]) := by
              cases dw <;> first | rfl | (exfalso; simp [kdOf] at c5)
            rw [e]; exact k H (Same.refl H)
          · obtain ⟨ws, rfl⟩ : ∃ ws, dw = .tuple ws := by cases dw <;> first | exact ⟨_, rfl⟩ | (exfalso; simp [kdOf] at c5)
            obtain ⟨b, ys, rfl, hb, hws⟩ := den_tuple.mp hw
            have hlw := denAll_length hws
            have eB : isBook (.tuple [.int n, .tuple ws]) = (decide (ws.length ≤ 12) && ws.all (isWork n)) := by
              show (decide (1 ≤ n) && decide (n ≤ 6) && decide (ws.length ≤ 12) && ws.all (isWork n)) = _
              rw [hn, Bool.true_and]
            rw [eB] at k
            refine ⟨_, rfl, b, ys, rfl, .inr hb, _, _, rfl, rfl, _, rfl, ?_⟩
            refine ite2 (fun c6 => ?_) (fun c6 => ?_)
            · have c6' : (12 : Int) < ys.length := of_decide_eq_true c6
              have e : false = (decide (ws.length ≤ 12) && ws.all (isWork n)) := by rw [decide_eq_false (by omega : ¬ ws.length ≤ 12)]; rfl
              rw [e]; exact k H (Same.refl H)
            · have c6' : ¬ (12 : Int) < ys.length := fun z => c6 (decide_eq_true z)
              have e1 : decide (ws.length ≤ 12) = true := decide_eq_true (by omega)
              rw [e1, Bool.true_and] at k
              refine ⟨_, rfl, b, rfl, ⟨ys, hb⟩, comp_tup (K := K) (a := b) (xs := ys) (fun σ => ∃ v, σ = [v, some (.int n)]) (fun i zs H2 => H2 = H ∧ zs = ((ws.take i).map (isWork n)).map V.bl) ?_ ⟨none, rfl⟩ ⟨rfl, rfl⟩ ?_ ?_ ?_ ?_⟩
              · rw [sizeLine_eq]; omega
              · rintro i zs H2 ⟨_, rfl⟩
                rw [List.length_map, List.length_map, List.length_take]; omega
              · rintro i zs H2 ⟨rfl, _⟩
                exact hb
              · rintro i zs σ x H2 hx ⟨v, rfl⟩ ⟨rfl, rfl⟩ hz
                obtain ⟨dx, hdx, hden⟩ := denAll_at hws hx
                refine nameAll_go ?_
                refine ⟨_, rfl, _, rfl, n, x, dx, rfl, hden, hz, ⟨some x, rfl⟩, rfl, ?_⟩
                rw [List.take_succ, hdx]
                simp
              · rintro zs H2 ⟨rfl, rfl⟩ p hp
                refine ⟨p, _, rfl, SqL.of upd_same, ?_⟩
                have e2 : ((ws.take ys.length).map (isWork n)).all id = ws.all (isWork n) := by
                  rw [hlw, List.take_length, List.all_map]
                  rfl
                rw [e2]
                exact k _ (Same.new hp)
end
end Ab
set_option Elab.async false
set_option linter.all false
set_option maxRecDepth 100000
namespace Ab
open PySem L2
def workD (l : List Int) : PyData := .tuple (l.map .int)
def bookD (n : Int) (ws : List (List Int)) : PyData := .tuple [.int n, .tuple (ws.map workD)]
def dealD (hs : List Int) : PyData := .tuple (hs.map .int)
def handIn : PyData → List Int → Bool
  | .int i, l => l.any (· == i)
  | _, _ => false
def dealP (ws : List (List Int)) : PyData → Bool
  | .tuple hs => decide (hs.length = ws.length) && (hs.zip ws).all fun p => handIn p.1 p.2
  | _ => false
theorem flat_ints (l : List Int) : (l.map V.int).all flatV = true := by
  rw [List.all_map]
  exact List.all_eq_true.mpr fun _ _ => rfl
theorem in_ints (i : Int) (l : List Int) : inV (.int i) (l.map V.int) = l.any (· == i) := by
  unfold inV
  rw [List.any_map]
  rfl
theorem den_book {K : PySem.W.Frag} {H : Hp} {n : Int} {ws : List (List Int)} {x : V} (h : Den K H (bookD n ws) x) : ∃ a b ys, x = .ref a ∧ SqT K H a [.int n, .ref b] ∧ SqT K H b ys ∧ DenAll K H (ws.map workD) ys := by
  obtain ⟨a, xs, rfl, ha, hds⟩ := den_tuple.mp h
  obtain ⟨xh, r1, rfl, hh, h2⟩ := denAll_cons.mp hds
  obtain ⟨xw, r2, rfl, hw, h3⟩ := denAll_cons.mp h2
  obtain rfl := denAll_nil.mp h3
  obtain rfl := den_int.mp hh
  obtain ⟨b, ys, rfl, hb, hys⟩ := den_tuple.mp hw
  exact ⟨a, b, ys, rfl, ha, hb, hys⟩
theorem book_parts {n : Int} {ws : List (List Int)} (h : isBook (bookD n ws) = true) : 1 ≤ n ∧ n ≤ 6 ∧ ws.length ≤ 12 ∧ ∀ l ∈ ws, isWork n (workD l) = true := by
  have h' : (decide (1 ≤ n) && decide (n ≤ 6) && decide ((ws.map workD).length ≤ 12) && (ws.map workD).all (isWork n)) = true := h
  simp only [Bool.and_eq_true, decide_eq_true_eq, List.length_map, List.all_eq_true] at h'
  exact ⟨h'.1.1.1, h'.1.1.2, h'.1.2, fun l hl => h'.2 _ (List.mem_map.mpr ⟨l, hl, rfl⟩)⟩
theorem pg_tupK {X : Cx} {pos : Pos} {es : List Expr} {k : Nat} {t : TGs} {n : Nat} {K : PySem.W.Frag} (hK : X.K = K) (hc : X.calm = true) (h : PGs X es t)
    (hn : (assignEach es X.env).length = n := by rfl) (hst : (assignEach es X.env).findIdx? (·.1) = none := by rfl) : PG X (.Tuple es k pos) (gTup K n t) := by
  subst hK
  exact pg_tup hc h hn hst
section
variable {X : Cx} {K : PySem.W.Frag}
theorem op_in_seqK (hK : X.K = K) : OpR X (compareOp .In) (rIn K false) := by subst hK; exact op_in_seq
theorem ix_tupK (hK : X.K = K) : IxR X (rIxT K) := by subst hK; exact ix_tup
theorem call_len_seqK (hK : X.K = K) : CallR X (.builtin "len") (fun xs H Q => ∃ p ys, xs = [.ref p] ∧ (SqL K H p ys ∨ SqT K H p ys) ∧ Q (.int ys.length) H) := by subst hK; exact call_len_seq
end
section
variable {P : Program} {w : World} {K : PySem.W.Frag} {mg : Str → Option Value} {base : Heap}
structure Pr (K : PySem.W.Frag) (mg : Str → Option Value) (fW fH fK fB fNB : Addr) (dW dH dK dB dNB : FuncData) : Prop where
  W : Fn K mg "is_whole" sWhole ["thing"] fW dW
  H : Fn K mg "are_hands" sHands ["thing"] fH dH
  Kw : Fn K mg "is_work" sWorkP ["hands", "thing"] fK dK
  B : Fn K mg "is_book" sBookP ["thing"] fB dB
  NB : Fn K mg "need_book" sNeedB ["book"] fNB dNB
variable {fW fH fK fB fNB : Addr} {dW dH dK dB dNB : FuncData}

def spNeedB (K : PySem.W.Frag) : Sp := fun vs H Q _ => ∃ x d, vs = [x] ∧ Den K H d x ∧ isBook d = true ∧ ∀ H', Same H H' → Q .non H'
theorem scNeedB : FnScope ["book"] ["book"] (defScope sNeedB) := ⟨rfl, rfl, rfl, by decide +kernel, rfl, by decide +kernel, by decide +kernel⟩
theorem ok_needB (B : Bl mg) (R : Pr K mg fW fH fK fB fNB dW dH dK dB dNB) : FnOk P w K mg base CX0 4 fNB dNB ["book"] (spNeedB K) := by
  have OB : FnOk P w K mg base CX0 3 fB dB ["thing"] (spBookP K) := ok_bookP R.B B R.W R.H R.Kw
  refine R.NB.fn.ok scNeedB (fun vs H Q E h => ?_) (fun cdv A outer s H vs Q E hr h => ?_)
  · obtain ⟨x, d, rfl, _⟩ := h
    rfl
  · obtain ⟨x, d, rfl, hd, hb, k⟩ := h
    refine ⟨_, pss_one (ps_if (pt_not (pt_val (pe_fn R.B OB hr rfl (pa_cons (pv 0) pa_nil)))) pss_never pss_nil), ?_⟩
    refine ⟨_, rfl, x, d, rfl, hd, fun H' hs => ⟨_, rfl, ?_⟩⟩
    rw [hb]
    refine iteF ?_
    exact k H' hs

end
end Ab
set_option Elab.async false
set_option linter.all false
set_option maxRecDepth 100000
namespace Ab
open PySem L2
theorem upto_get {n i : Nat} (h : i < n) : (upto n)[i]? = some (i : Int) := by
  unfold upto
  rw [List.getElem?_map, List.getElem?_range h]
  rfl
theorem upto_length (n : Nat) : (upto n).length = n := by unfold upto; rw [List.length_map, List.length_range]
section
variable {P : Program} {w : World} {K : PySem.W.Frag} {mg : Str → Option Value} {base : Heap}
variable {fW fH fK fB fNB : Addr} {dW dH dK dB dNB : FuncData}
def Good (K : PySem.W.Frag) (H : Hp) (x y : V) (n : Int) (ws : List (List Int)) (hs : List Int) : Prop := Den K H (bookD n ws) x ∧ isBook (bookD n ws) = true ∧ Den K H (dealD hs) y ∧ dealP ws (dealD hs) = true
theorem Good.same {H H' : Hp} {x y : V} {n : Int} {ws : List (List Int)} {hs : List Int} (g : Good K H x y n ws hs) (e : Same H H') : Good K H' x y n ws hs := ⟨e.den _ _ g.1, g.2.1, e.den _ _ g.2.2.1, g.2.2.2⟩
theorem Good.len {H : Hp} {x y : V} {n : Int} {ws : List (List Int)} {hs : List Int} (g : Good K H x y n ws hs) : hs.length ≤ 12 ∧ 1 ≤ n ∧ n ≤ 6 := by
  obtain ⟨h1, h2, h3, _⟩ := book_parts g.2.1
  have h : (decide ((hs.map PyData.int).length = ws.length) && ((hs.map PyData.int).zip ws).all fun p => handIn p.1 p.2) = true := g.2.2.2
  simp only [Bool.and_eq_true, decide_eq_true_eq, List.length_map] at h
  omega

end
end Ab
set_option Elab.async false
set_option linter.all false
set_option maxRecDepth 100000
namespace Ab
open PySem L2
def But (t : Addr) (H H' : Hp) : Prop := ∀ b o, b ≠ t → H b = some o → H' b = some o
theorem But.refl (t : Addr) (H : Hp) : But t H H := fun _ _ _ h => h
theorem But.trans {t : Addr} {H H1 H2 : Hp} (a : But t H H1) (b : But t H1 H2) : But t H H2 := fun c o n h => b c o n (a c o n h)
theorem But.of {t : Addr} {H H' : Hp} (a : Same H H') : But t H H' := fun c o _ h => a c o h
theorem But.at {t : Addr} {H : Hp} {u : HO} : But t H (upd H t u) := fun c o n h => by rw [upd_ne n]; exact h
theorem But.free {t : Addr} {H H' : Hp} (e : But t H H') {l : Addr} (h : H' l = none) (n : l ≠ t) : H l = none := by
  cases q : H l with
  | none => rfl
  | some o => rw [e l o n q] at h; cases h
theorem But.rdL {t a : Addr} {H H' : Hp} {xs : List V} (e : But t H H') (n : a ≠ t) (h : Rd H a (.lst xs)) : Rd H' a (.lst xs) := by
  rcases h with h | ⟨o, h⟩
  · exact .inl (e a _ n h)
  · exact .inr ⟨o, e a _ n h⟩
section
variable {K : PySem.W.Frag} {t : Addr} {H H' : Hp} {ys : List V}
theorem But.seqT {a : Addr} {xs : List V} (e : But t H H') (ht : H t = some (.lst ys)) (h : SqT K H a xs) : SqT K H' a xs := by
  rcases h with (h | ⟨o, h⟩) | h
  · exact .inl (.inl (e a _ (fun z => by rw [z, ht] at h; cases h) h))
  · exact .inl (.inr ⟨o, e a _ (fun z => by rw [z, ht] at h; cases h) h⟩)
  · exact .inr h
theorem But.seqL {a : Addr} {xs : List V} (e : But t H H') (n : a ≠ t) (h : SqL K H a xs) : SqL K H' a xs := by
  rcases h with h | h
  · exact .inl (e.rdL n h)
  · exact .inr h
mutual
def noList : PyData → Bool
  | .dict _ => false
  | .list _ => false
  | .tuple ds => noLists ds
  | _ => true
def noLists : List PyData → Bool
  | [] => true
  | d :: ds => noList d && noLists ds
end
mutual
theorem But.den (e : But t H H') (ht : H t = some (.lst ys)) : ∀ (d : PyData) (v : V), noList d = true → Den K H d v → Den K H' d v
  | .none, v, _, h => by unfold Den at h ⊢; exact h
  | .bool b, v, _, h => by unfold Den at h ⊢; exact h
  | .int i, v, _, h => by unfold Den at h ⊢; exact h
  | .str x, v, _, h => by unfold Den at h ⊢; exact h
  | .list ds, v, n, h => by unfold noList at n; cases n
  | .tuple ds, v, n, h => by unfold noList at n; unfold Den at h ⊢; obtain ⟨a, xs, h1, h2, h3⟩ := h; exact ⟨a, xs, h1, e.seqT ht h2, But.denAll e ht ds xs n h3⟩
  | .dict kvs, v, n, h => by unfold noList at n; cases n
theorem But.denAll (e : But t H H') (ht : H t = some (.lst ys)) : ∀ (ds : List PyData) (xs : List V), noLists ds = true → DenAll K H ds xs → DenAll K H' ds xs
  | [], xs, _, h => by unfold DenAll at h ⊢; exact h
  | d :: ds, xs, n, h => by
    unfold noLists at n; rw [Bool.and_eq_true] at n
    unfold DenAll at h ⊢; obtain ⟨x, r, h1, h2, h3⟩ := h; exact ⟨x, r, h1, But.den e ht d x n.1 h2, But.denAll e ht ds r n.2 h3⟩
end
end
theorem noLists_map {α : Type} (f : α → PyData) (h : ∀ x, noList (f x) = true) : ∀ l : List α, noLists (l.map f) = true
  | [] => by unfold List.map noLists; rfl
  | x :: r => by rw [List.map_cons]; unfold noLists; rw [h x, noLists_map f h r]; rfl
theorem noList_int (i : Int) : noList (.int i) = true := by unfold noList; rfl
theorem noList_work (l : List Int) : noList (workD l) = true := by unfold workD noList; exact noLists_map _ noList_int l
theorem noList_book (n : Int) (ws : List (List Int)) : noList (bookD n ws) = true := by
  unfold bookD noList noLists
  rw [noList_int]
  unfold noLists noList
  rw [noLists_map _ noList_work ws]
  unfold noLists
  rfl

theorem sz1 (x : V) : [x].length ≤ sizeLine := by rw [sizeLine_eq]; simp
theorem sz2 (x y : V) : [x, y].length ≤ sizeLine := by rw [sizeLine_eq]; simp
theorem size1 {n : Nat} (h : n ≤ 1000) : n ≤ sizeLine := by rw [sizeLine_eq]; omega
def Tape (K : PySem.W.Frag) (H : Hp) (t a : Addr) (ns : List Int) : Prop := ∃ q : Int, H t = some (.lst [.int q])
theorem Tape.same {K : PySem.W.Frag} {H H' : Hp} {t a : Addr} {ns : List Int} (h : Tape K H t a ns) (e : Same H H') : Tape K H' t a ns := by
  obtain ⟨q, h2⟩ := h
  exact ⟨q, e t _ h2⟩
theorem Tape.den {K : PySem.W.Frag} {H H' : Hp} {t a : Addr} {ns : List Int} (h : Tape K H t a ns) (e : But t H H') {d : PyData} {v : V} (n : noList d = true) (hd : Den K H d v) : Den K H' d v := by
  obtain ⟨q, h2⟩ := h
  exact e.den h2 d v n hd
theorem Tape.denAll {K : PySem.W.Frag} {H H' : Hp} {t a : Addr} {ns : List Int} (h : Tape K H t a ns) (e : But t H H') {ds : List PyData} {vs : List V} (n : noLists ds = true) (hd : DenAll K H ds vs) : DenAll K H' ds vs := by
  obtain ⟨q, h2⟩ := h
  exact e.denAll h2 ds vs n hd
theorem Tape.seqT {K : PySem.W.Frag} {H H' : Hp} {t a : Addr} {ns : List Int} (h : Tape K H t a ns) (e : But t H H') {b : Addr} {xs : List V} (hd : SqT K H b xs) : SqT K H' b xs := by
  obtain ⟨q, h2⟩ := h
  exact e.seqT h2 hd
theorem Tape.ne {K : PySem.W.Frag} {H : Hp} {t a : Addr} {ns : List Int} (h : Tape K H t a ns) {b : Addr} (hb : H b = none) : b ≠ t := by
  obtain ⟨q, h2⟩ := h
  intro z
  rw [z, h2] at hb
  cases hb
theorem Tape.wr {K : PySem.W.Frag} {H H' : Hp} {t a f : Addr} {ns : List Int} (T : Tape K H t a ns) (b : But f H H') (n : t ≠ f) : Tape K H' t a ns := by
  obtain ⟨q, h2⟩ := T
  exact ⟨q, b t _ n h2⟩
section
variable {P : Program} {w : World} {K : PySem.W.Frag} {mg : Str → Option Value} {base : Heap}
theorem noDict_ints (ns : List Int) : noDict (.list (ns.map .int)) = true := by
  unfold noDict
  induction ns with
  | nil => unfold List.map noDicts; rfl
  | cons n r ih => rw [List.map_cons]; unfold noDicts; rw [ih]; unfold noDict; rfl
theorem canLay_map {α : Type} (f : α → PyData) (h : ∀ x, (f x).canLay0 = true) : ∀ l : List α, PyData.canLayAll0 (l.map f) = true
  | [] => by unfold List.map PyData.canLayAll0; rfl
  | x :: r => by rw [List.map_cons]; unfold PyData.canLayAll0; rw [h x, canLay_map f h r]; rfl
theorem depth_map {α : Type} {k : Nat} (f : α → PyData) (h : ∀ x, (f x).depth ≤ k) : ∀ l : List α, PyData.depthAll (l.map f) ≤ k
  | [] => by unfold List.map PyData.depthAll; exact Nat.zero_le _
  | x :: r => by rw [List.map_cons]; unfold PyData.depthAll; exact Nat.max_le.mpr ⟨h x, depth_map f h r⟩
theorem canLay_int (i : Int) : (PyData.int i).canLay0 = true := by unfold PyData.canLay0; rfl
theorem depth_int (i : Int) : (PyData.int i).depth ≤ 0 := by unfold PyData.depth; exact Nat.le_refl _
theorem canLay_lints (ns : List Int) : (PyData.list (ns.map .int)).canLay0 = true := by unfold PyData.canLay0; exact canLay_map _ canLay_int ns
theorem canLay_tints (ns : List Int) : (PyData.tuple (ns.map .int)).canLay0 = true := by unfold PyData.canLay0; exact canLay_map _ canLay_int ns
theorem depth_lints (ns : List Int) : (PyData.list (ns.map .int)).depth ≤ 1 := by unfold PyData.depth; exact Nat.succ_le_succ (depth_map _ depth_int ns)
theorem depth_tints (ns : List Int) : (PyData.tuple (ns.map .int)).depth ≤ 1 := by unfold PyData.depth; exact Nat.succ_le_succ (depth_map _ depth_int ns)
theorem shaped_of {d : PyData} (h1 : d.canLay0 = true) (h2 : d.depth ≤ 64) : SeqAt.shaped d = true := by
  unfold SeqAt.shaped
  rw [h1, decide_eq_true h2]
  rfl
theorem shaped_ints (ns : List Int) : SeqAt.shaped (.list (ns.map .int)) = true := shaped_of (canLay_lints ns) (Nat.le_trans (depth_lints ns) (by decide))
theorem noDict_tints (ns : List Int) : noDict (.tuple (ns.map .int)) = true := by
  have h := noDict_ints ns
  unfold noDict at h ⊢
  exact h
theorem _root_.L2.Room.u64 {k : Nat} {A : Around} (r : Room k A) : A.units + 64 < cLine := by have := r.un; omega
def spCell (K : PySem.W.Frag) : Sp := fun vs H Q _ => ∃ (a : Addr) (ns : List Int) (k : Nat), vs = [.ref a, .int k] ∧ SqL K H a (ns.map V.int) ∧ ∀ r, Q (.int r) H
theorem scCell : FnScope ["script", "k"] ["script", "k"] (defScope sCell) := ⟨rfl, rfl, rfl, by decide +kernel, rfl, by decide +kernel, by decide +kernel⟩
theorem ok_cell {f : Addr} {fd : FuncData} (G : Fn K mg "_law_acell" sCell ["script", "k"] f fd) (B : Bl mg) : FnOk P w K mg base CX0 1 f fd ["script", "k"] (spCell K) := by
  refine G.fn.ok scCell (fun vs H Q E h => ?_) (fun cdv A outer s H vs Q E hr h => ?_)
  · obtain ⟨a, ns, n, rfl, _⟩ := h
    rfl
  · obtain ⟨a, ns, n, rfl, ha, k⟩ := h
    refine ⟨_, (pss_cons (ps_if (pt_cmpR op_lt (pv 1) (pe_callB call_len_seq rfl B.len b_len (pa_cons (pv 0) pa_nil)) (nomark _))
      (pss_one (ps_ret (pe_ix ix_list (pv 0) (pv 1) (fun _ _ => rfl))))
      pss_nil)
    (pss_one (ps_ret pe_int))), ?_⟩
    refine ⟨_, rfl, _, rfl, a, _, rfl, .inl ha, _, _, rfl, rfl, _, rfl, ?_⟩
    rw [List.length_map]
    refine ite2 (fun c => ?_) (fun c => ?_)
    · have hlt : n < ns.length := by have := of_decide_eq_true c; omega
      exact ⟨_, rfl, _, rfl, a, _, n, .int ns[n], rfl, rfl, ha, atI_nat (by rw [List.getElem?_map, List.getElem?_eq_getElem hlt]; rfl), k _⟩
    · exact k _
def spTape (K : PySem.W.Frag) : Sp := fun vs H Q _ => ∃ (a : Addr) (ns : List Int) (k : Nat), vs = [.ref a, .int k] ∧ SqL K H a (ns.map V.int) ∧ ∀ t q, H t = none → Q (.ref t) (upd H t (.lst [.int q]))
theorem scTape : FnScope ["script", "k", "cell", "p", "number", "last", "turn"] ["script", "k"] (defScope sTape) := ⟨rfl, rfl, rfl, by decide +kernel, rfl, by decide +kernel, by decide +kernel⟩
theorem ok_tape {f fC : Addr} {fd dC : FuncData} (G : Fn K mg "_law_atape" sTape ["script", "k"] f fd) (B : Bl mg) (GC : Fn K mg "_law_acell" sCell ["script", "k"] fC dC) : FnOk P w K mg base CX0 2 f fd ["script", "k"] (spTape K) := by
  have OC : FnOk P w K mg base CX0 1 fC dC ["script", "k"] (spCell K) := ok_cell GC B
  refine G.fn.ok scTape (fun vs H Q E h => ?_) (fun cdv A outer s H vs Q E hr h => ?_)
  · obtain ⟨a, ns, n, rfl, _⟩ := h
    rfl
  · obtain ⟨a, ns, n, rfl, ha, k⟩ := h
    have r1 : Room 1 _ := hr
    refine ⟨_, (pss_cons (ps_set (i := 2) scTape.nd rfl (Or.inl rfl) (pe_fn GC OC r1 rfl (pa_cons (pv 0) (pa_cons (pv 1) pa_nil))))
    (pss_cons (ps_if (pt_cmpR op_eq (pe_op op_mod (pv 2) pe_int) pe_int (nomark _))
      (pss_one (ps_ret (pe_lst (pa_cons (pe_op op_fdiv (pv 2) pe_int) pa_nil))))
      pss_nil)
    (pss_cons (ps_set (i := 3) scTape.nd rfl (Or.inl rfl) pe_int)
    (pss_cons (ps_set (i := 4) scTape.nd rfl (Or.inl rfl) pe_int)
    (pss_cons (ps_set (i := 5) scTape.nd rfl (Or.inl rfl) (pe_op op_mod (pe_op op_add (pe_op op_add (pe_op op_mul (pe_op op_mod (pv 2) (pv 3)) pe_int) (pe_op op_mul pe_int (pv 1))) pe_int) (pv 3)))
    (pss_cons (ps_for PassesOwn.never rfl (pi_range1 rfl B.range (pa_cons pe_int pa_nil)) (pg_name (i := 6) scTape.nd rfl (Or.inl rfl))
      (pss_cons (ps_set (i := 4) scTape.nd rfl (Or.inl rfl) (pe_op op_add (pe_op op_mul (pv 4) (pv 3)) (pv 5)))
    (pss_one (ps_set (i := 5) scTape.nd rfl (Or.inl rfl) (pe_op op_mod (pe_op op_add (pe_op op_add (pe_op op_mul (pv 5) (pv 5)) (pe_op op_mul pe_int (pv 1))) (pv 6)) (pv 3))))))
    (pss_one (ps_ret (pe_lst (pa_cons (pv 4) pa_nil)))))))))), ?_⟩
    refine ⟨_, rfl, _, rfl, a, ns, n, rfl, ha, fun c => ?_⟩
    refine ⟨_, rfl, _, _, rfl, rfl, (show (0 : Int) < _ by decide), rfl, _, rfl, ?_⟩
    refine ite2 (fun c1 => ?_) (fun c1 => ?_)
    · exact ⟨_, rfl, _, _, rfl, rfl, ⟨by decide, by decide⟩, sz1 _, fun t ht => k t _ ht⟩
    · refine ⟨_, rfl, _, rfl, _, _, rfl, rfl, (show (0 : Int) < _ by decide), _, _, rfl, rfl, .inr ⟨by decide, by decide⟩, _, rfl, _, _, rfl, rfl, .inl ⟨by decide, by decide⟩, _, _, rfl, rfl, _, _, rfl, rfl, _, rfl, _, _, rfl, rfl, (show (0 : Int) < _ by decide), ?_⟩
      have b0 : 0 ≤ ((c % 2305843009213693951 * 48271 + 69621 * (n : Int) + 11) % 2305843009213693951 : Int) ∧ ((c % 2305843009213693951 * 48271 + 69621 * (n : Int) + 11) % 2305843009213693951 : Int) < 2305843009213693951 := ⟨Int.emod_nonneg _ (by decide), Int.emod_lt_of_pos _ (by decide)⟩
      refine ⟨18, rfl, by decide, by decide, for_range (lo := 0) (n := 18) (fun i σ H2 => (∃ nu la v6, σ = [some (.ref a), some (.int n), some (.int c), some (.int 2305843009213693951), some (.int nu), some (.int la), v6] ∧ 0 ≤ la ∧ la < 2305843009213693951) ∧ H2 = H) ⟨⟨0, _, none, rfl, b0.1, b0.2⟩, rfl⟩ ?_ ?_⟩
      · rintro i σ H2 hi ⟨⟨nu, la, v6, rfl, h0, h1⟩, rfl⟩
        refine ⟨_, rfl, _, rfl, _, _, rfl, rfl, .inr ⟨by decide, by decide⟩, _, rfl, _, _, rfl, rfl, ?_⟩
        refine ⟨_, rfl, _, rfl, _, _, rfl, rfl, .inl ⟨by omega, by omega⟩, _, rfl, _, _, rfl, rfl, .inl ⟨by decide, by decide⟩, _, _, rfl, rfl, _, rfl, _, _, rfl, rfl, _, rfl, _, _, rfl, rfl, (show (0 : Int) < _ by decide), ?_⟩
        exact ⟨⟨_, _, _, rfl, Int.emod_nonneg _ (by decide), Int.emod_lt_of_pos _ (by decide)⟩, rfl⟩
      · rintro σ H2 ⟨⟨nu, la, v6, rfl, h0, h1⟩, rfl⟩
        exact ⟨_, rfl, sz1 _, fun t ht => k t _ ht⟩
def spDigit (K : PySem.W.Frag) : Sp := fun vs H Q _ => ∃ (t a : Addr) (ns : List Int) (m : Int), vs = [.ref t, .int m] ∧ Tape K H t a ns ∧ 0 < m ∧ m < 1267650600228229401496703205376 ∧ ∀ r H', 0 ≤ r → r < m → But t H H' → Tape K H' t a ns → Q (.int r) H'
theorem scADigit : FnScope ["tape", "many", "found"] ["tape", "many"] (defScope sADigit) := ⟨rfl, rfl, rfl, by decide +kernel, rfl, by decide +kernel, by decide +kernel⟩
theorem ok_digit {f : Addr} {fd : FuncData} (G : Fn K mg "_law_adigit" sADigit ["tape", "many"] f fd) (B : Bl mg) : FnOk P w K mg base CX0 1 f fd ["tape", "many"] (spDigit K) := by
  refine G.fn.ok scADigit (fun vs H Q E h => ?_) (fun cdv A outer s H vs Q E hr h => ?_)
  · obtain ⟨t, a, ns, m, rfl, _⟩ := h
    rfl
  · obtain ⟨t, a, ns, m, rfl, ⟨q, ht⟩, hm1, hm2, k⟩ := h
    refine ⟨_, (pss_cons (ps_set (i := 2) scADigit.nd rfl (Or.inl rfl) (pe_op op_mod (pe_ix ix_list (pv 0) pe_int (fun _ _ => rfl)) (pv 1)))
    (pss_cons (ps_asg (pe_op op_fdivB (pe_ix ix_list (pv 0) pe_int (fun _ _ => rfl)) (pv 1)) (pg_sub (pv 0) pe_int set_list))
    (pss_one (ps_ret (pv 2))))), ?_⟩
    refine ⟨_, rfl, t, _, 0, .int q, rfl, rfl, SqL.of ht, rfl, _, rfl, _, _, rfl, rfl, hm1, ?_⟩
    refine ⟨_, rfl, t, _, 0, .int q, rfl, rfl, SqL.of ht, rfl, _, rfl, _, _, rfl, rfl, ⟨hm1, hm2⟩, _, rfl, t, _, 0, 0, rfl, rfl, ht, rfl, ?_⟩
    exact ⟨_, rfl, k _ _ (Int.emod_nonneg _ (by omega)) (Int.emod_lt_of_pos _ hm1) But.at ⟨_, upd_same⟩⟩
end
end Ab
set_option Elab.async false
set_option linter.all false
set_option maxRecDepth 100000
namespace Ab
open PySem L2
theorem rises_of (n : Int) : ∀ (l : List Int) (last : Int), (∀ x ∈ l, last < x) → l.Pairwise (· < ·) → (∀ x ∈ l, x < n) → risesP n last (l.map .int) = true
  | [], _, _, _, _ => rfl
  | x :: r, last, h1, h2, h3 => by
    rw [List.map_cons, risesP_cons_int]
    have h2' := List.pairwise_cons.mp h2
    rw [decide_eq_true (h1 x (List.mem_cons_self ..)), decide_eq_true (h3 x (List.mem_cons_self ..)), rises_of n r x h2'.1 h2'.2 (fun y hy => h3 y (List.mem_cons_of_mem _ hy))]
    rfl
theorem work_of {n : Int} {l : List Int} (h0 : l ≠ []) (h1 : ∀ x ∈ l, 0 ≤ x ∧ x < n) (h2 : l.Pairwise (· < ·)) : isWork n (workD l) = true := by
  have e : isWork n (workD l) = (!(l.map PyData.int).isEmpty && risesP n (-1) (l.map .int)) := rfl
  rw [e, rises_of n l (-1) (fun x hx => by have := (h1 x hx).1; omega) h2 (fun x hx => (h1 x hx).2)]
  cases l with
  | nil => exact absurd rfl h0
  | cons _ _ => rfl
theorem rises_parts (n : Int) : ∀ (l : List Int) (last : Int), risesP n last (l.map .int) = true → l.Pairwise (· < ·) ∧ ∀ x ∈ l, last < x ∧ x < n
  | [], _, _ => ⟨.nil, fun _ h => by cases h⟩
  | x :: r, last, h => by
    rw [List.map_cons, risesP_cons_int, Bool.and_eq_true, Bool.and_eq_true] at h
    obtain ⟨⟨h1, h2⟩, h3⟩ := h
    have h1 := of_decide_eq_true h1
    have h2 := of_decide_eq_true h2
    obtain ⟨i1, i2⟩ := rises_parts n r x h3
    refine ⟨List.pairwise_cons.mpr ⟨fun y hy => (i2 y hy).1, i1⟩, fun y hy => ?_⟩
    rcases List.mem_cons.mp hy with rfl | hy
    · exact ⟨h1, h2⟩
    · exact ⟨by have := (i2 y hy).1; omega, (i2 y hy).2⟩
theorem work_parts {n : Int} {l : List Int} (h : isWork n (workD l) = true) : l ≠ [] ∧ (∀ x ∈ l, 0 ≤ x ∧ x < n) ∧ l.Pairwise (· < ·) := by
  have e : (!(l.map PyData.int).isEmpty && risesP n (-1) (l.map .int)) = true := h
  rw [Bool.and_eq_true] at e
  obtain ⟨h1, h2⟩ := rises_parts n l (-1) e.2
  refine ⟨fun z => by rw [z] at e; simp at e, fun x hx => ⟨by have := (h2 x hx).1; omega, (h2 x hx).2⟩, h1⟩
theorem short_from {n : Int} : ∀ (l : List Int) (lo : Int), lo ≤ n → (∀ x ∈ l, lo ≤ x ∧ x < n) → l.Pairwise (· < ·) → (l.length : Int) ≤ n - lo
  | [], lo, h, _, _ => by simp; omega
  | x :: r, lo, h, h1, h2 => by
    have h2' := List.pairwise_cons.mp h2
    have hx := h1 x (List.mem_cons_self ..)
    have := short_from r (x + 1) (by omega) (fun y hy => ⟨by have := h2'.1 y hy; omega, (h1 y (List.mem_cons_of_mem _ hy)).2⟩) h2'.2
    rw [List.length_cons]
    omega
theorem work_short {n : Int} {l : List Int} (hn : 0 ≤ n) (h1 : ∀ x ∈ l, 0 ≤ x ∧ x < n) (h2 : l.Pairwise (· < ·)) : (l.length : Int) ≤ n := by
  have := short_from l 0 hn h1 h2
  omega
theorem upto_mem {n : Nat} {x : Int} : x ∈ upto n ↔ 0 ≤ x ∧ x < n := by
  unfold upto
  rw [List.mem_map]
  constructor
  · rintro ⟨i, hi, rfl⟩
    have := List.mem_range.mp hi
    show 0 ≤ (i : Int) ∧ (i : Int) < n
    omega
  · rintro ⟨h1, h2⟩
    exact ⟨x.toNat, List.mem_range.mpr (by omega), by show ((x.toNat : Nat) : Int) = x; omega⟩
end Ab
set_option Elab.async false
set_option linter.all false
set_option maxRecDepth 100000
namespace Ab
open PySem L2
section
variable {P : Program} {w : World} {K : PySem.W.Frag} {mg : Str → Option Value} {base : Heap}
theorem eqvAll_ints : ∀ (a b : List Int), PyData.eqvAll (a.map .int) (b.map .int) = decide (a = b)
  | [], [] => by simp [PyData.eqvAll]
  | [], _ :: _ => by simp [PyData.eqvAll]
  | _ :: _, [] => by simp [PyData.eqvAll]
  | x :: r, y :: s => by
    rw [List.map_cons, List.map_cons, PyData.eqvAll, eqvAll_ints r s, PyData.eqv]
    by_cases h : x = y
    · by_cases h2 : r = s
      · simp [h, h2]
      · simp [h, h2]
    · simp [h]
theorem eqv_lints (a b : List Int) : PyData.eqv (.list (a.map .int)) (.list (b.map .int)) = decide (a = b) := by rw [PyData.eqv, eqvAll_ints]
theorem eqv_tints (a b : List Int) : PyData.eqv (.tuple (a.map .int)) (.tuple (b.map .int)) = decide (a = b) := by rw [PyData.eqv, eqvAll_ints]
theorem handIn_int {h : Int} {l : List Int} : handIn (.int h) l = true ↔ h ∈ l := by
  show (l.any (· == h)) = true ↔ _
  rw [List.any_eq_true]
  constructor
  · rintro ⟨x, hx, e⟩
    have : x = h := by simpa using e
    exact this ▸ hx
  · exact fun hx => ⟨h, hx, by simp⟩
theorem deal_parts {ws : List (List Int)} {hs : List Int} (h : dealP ws (dealD hs) = true) : hs.length = ws.length ∧ ∀ (j : Nat) (h : Int) (l : List Int), hs[j]? = some h → ws[j]? = some l → h ∈ l := by
  have h' : (decide ((hs.map PyData.int).length = ws.length) && ((hs.map PyData.int).zip ws).all fun p => handIn p.1 p.2) = true := h
  rw [List.length_map, Bool.and_eq_true, List.all_eq_true] at h'
  refine ⟨of_decide_eq_true h'.1, fun j h l hj hl => ?_⟩
  refine handIn_int.mp (h'.2 (.int h, l) (List.mem_of_getElem? (i := j) ?_))
  rw [List.getElem?_zip_eq_some]
  exact ⟨by rw [List.getElem?_map, hj]; rfl, hl⟩
theorem book_of {n : Int} {ws : List (List Int)} (h1 : 1 ≤ n) (h2 : n ≤ 6) (h3 : ws.length ≤ 12) (h4 : ∀ l ∈ ws, isWork n (workD l) = true) : isBook (bookD n ws) = true := by
  show (decide (1 ≤ n) && decide (n ≤ 6) && decide ((ws.map workD).length ≤ 12) && (ws.map workD).all (isWork n)) = true
  rw [decide_eq_true h1, decide_eq_true h2, List.length_map, decide_eq_true h3, Bool.true_and, Bool.true_and, Bool.true_and, List.all_eq_true]
  intro d hd
  obtain ⟨l, hl, rfl⟩ := List.mem_map.mp hd
  exact h4 l hl
theorem den_bookI {H : Hp} {n : Int} {ws : List (List Int)} {a b : Addr} {ys : List V} (h1 : SqT K H a [.int n, .ref b]) (h2 : SqT K H b ys) (h3 : DenAll K H (ws.map workD) ys) : Den K H (bookD n ws) (.ref a) :=
  den_tuple.mpr ⟨a, _, rfl, h1, denAll_cons.mpr ⟨_, _, rfl, den_int.mpr rfl, denAll_cons.mpr ⟨_, _, rfl, den_tuple.mpr ⟨b, ys, rfl, h2, h3⟩, denAll_nil.mpr rfl⟩⟩⟩
def spABook (K : PySem.W.Frag) : Sp := fun vs H Q _ => ∃ (t a : Addr) (ns : List Int) (hm wm : Int), vs = [.ref t, .int hm, .int wm] ∧ Tape K H t a ns ∧ 1 ≤ hm ∧ hm ≤ 6 ∧ 0 ≤ wm ∧ wm ≤ 12 ∧ ∀ n ws p H', isBook (bookD n ws) = true → n ≤ hm → (ws.length : Int) ≤ wm → But t H H' → Tape K H' t a ns → Den K H' (bookD n ws) (.ref p) → Q (.ref p) H'
theorem scABook : FnScope ["tape", "hands", "works", "n", "often", "found", "k", "able"] ["tape", "hands", "works"] (defScope sABook) := ⟨rfl, rfl, rfl, by decide +kernel, rfl, by decide +kernel, by decide +kernel⟩
theorem ok_abook {f fD : Addr} {fd fdD : FuncData} (G : Fn K mg "_law_abook" sABook ["tape", "hands", "works"] f fd) (B : Bl mg) (GD : Fn K mg "_law_adigit" sADigit ["tape", "many"] fD fdD) (OD : FnOk P w K mg base CX0 1 fD fdD ["tape", "many"] (spDigit K)) : FnOk P w K mg base CX0 2 f fd ["tape", "hands", "works"] (spABook K) := by
  refine G.fn.ok scABook (fun vs H Q E h => ?_) (fun cdv A outer s H vs Q E hr h => ?_)
  · obtain ⟨t, a, ns, hm, wm, rfl, _⟩ := h
    rfl
  · obtain ⟨t, a, ns, hm, wm, rfl, hT, hh1, hh6, hw0, hw12, k⟩ := h
    have r1 : Room 1 _ := hr
    refine ⟨_, (pss_cons (ps_set (i := 3) scABook.nd rfl (Or.inl rfl) (pe_op op_add pe_int (pe_fn GD OD r1 rfl (pa_cons (pv 0) (pa_cons (pv 1) pa_nil)))))
    (pss_cons (ps_set (i := 4) scABook.nd rfl (Or.inr rfl) (pe_op op_add pe_int (pe_fn GD OD r1 rfl (pa_cons (pv 0) (pa_cons pe_int pa_nil)))))
    (pss_cons (ps_set (i := 5) scABook.nd rfl (Or.inl rfl) (pe_lst pa_nil))
    (pss_cons (ps_for PassesOwn.never rfl (pi_range1 rfl B.range (pa_cons (pe_fn GD OD r1 rfl (pa_cons (pv 0) (pa_cons (pe_op op_add (pv 2) pe_int) pa_nil))) pa_nil)) (pg_name (i := 6) scABook.nd rfl (Or.inl rfl))
      (pss_cons (ps_setcomp (i := 7) (own := ["hand"]) (fr := [4, 0]) (frn := ["often", "tape"]) (compOk_of (defScope sABook) ["tape", "hands", "works", "n", "often", "found", "k", "able"] rfl rfl (by decide +kernel)) rfl scABook.nd rfl rfl rfl (pi_range1 rfl B.range (pa_cons (pv 3) pa_nil))
        (fun _ _ _ _ => (pg_name (i := 0) (show (["hand", "often", "tape"] : List Str).Nodup by decide +kernel) rfl (Or.inl rfl))) (fun _ _ _ _ => pf_one (pt_cmpR op_lt (pe_fn GD OD r1 rfl (pa_cons (pv 2) (pa_cons pe_int pa_nil))) (pv 1) (nomark _)))
        (fun _ _ _ _ => (pv 0)))
    (pss_cons (ps_if (pt_cmpR (op_eqD hr.u64) (pv 7) (pe_lst pa_nil) (nomark _))
      (pss_one (ps_set (i := 7) scABook.nd rfl (Or.inl rfl) (pe_lst (pa_cons (pe_fn GD OD r1 rfl (pa_cons (pv 0) (pa_cons (pv 3) pa_nil))) pa_nil))))
      pss_nil)
    (pss_one (ps_expr (pe_bm PySem.F.plainAttrs_list PySem.F.slot_list_append PySem.F.type_list_append mt_append (pv 5) (pa_cons (pe_callTy call_tuple_of rfl B.tuple b_tuple (pa_cons (pv 7) pa_nil)) pa_nil)))))))
    (pss_one (ps_ret (pe_tup (pa_cons (pv 3) (pa_cons (pe_callTy call_tuple_of rfl B.tuple b_tuple (pa_cons (pv 5) pa_nil)) pa_nil))))))))), ?_⟩
    refine ⟨_, rfl, _, rfl, t, a, ns, hm, rfl, hT, by omega, by omega, fun r H1 hr0 hr1 b1 T1 => ⟨_, _, rfl, rfl, ?_⟩⟩
    refine ⟨_, rfl, t, a, ns, 4, rfl, T1, by decide, by decide, fun kd H2 hk0 hk1 b2 T2 => ⟨_, _, rfl, rfl, ?_⟩⟩
    refine ⟨size1 (Nat.zero_le _), fun fl hfl => ?_⟩
    have ntf : t ≠ fl := fun z => T2.ne hfl z.symm
    have s3 := Same.new (o := .lst []) hfl
    have hfl0 : H fl = none := (b1.trans b2).free hfl (Ne.symm ntf)
    have T3 := T2.same s3
    have b03 := b1.trans (b2.trans (But.of s3))
    have hfl3 : upd H2 fl (.lst []) fl = some (.lst []) := upd_same
    generalize hH3 : upd H2 fl (.lst []) = H3 at T3 b03 hfl3 ⊢
    refine ⟨_, rfl, _, rfl, _, _, rfl, rfl, t, a, ns, wm + 1, rfl, T3, by omega, by omega, fun m H4 hm0 hm1 b4 T4 => ?_⟩
    refine ⟨m, rfl, by omega, by omega, for_range (lo := 0) (n := m.toNat) (fun i σ H5 => ∃ (ws : List (List Int)) (xs : List V) (v v2 : Option V), σ = [some (.ref t), some (.int hm), some (.int wm), some (.int (1 + r)), some (.int (1 + kd)), some (.ref fl), v, v2] ∧ ws.length = i ∧
      (∀ l ∈ ws, isWork (1 + r) (workD l) = true) ∧ H5 fl = some (.lst xs) ∧ DenAll K H5 (ws.map workD) xs ∧ But t H H5 ∧ Tape K H5 t a ns)
      ⟨[], [], none, none, rfl, rfl, fun _ h => (List.not_mem_nil h).elim, b4 fl _ (Ne.symm ntf) hfl3, denAll_nil.mpr rfl, b03.trans b4, T4⟩ ?_ ?_⟩
    · rintro i σ H5 hi ⟨ws, xs, v, v2, rfl, hl, hw, hx, hd, b5, T5⟩
      have hxl : xs.length = i := by rw [denAll_length hd, List.length_map, hl]
      have next : ∀ (l : List Int) (p : Addr) (H7 : Hp), isWork (1 + r) (workD l) = true → But t H5 H7 → Tape K H7 t a ns → SqT K H7 p (l.map V.int) →
          ∃ xs', H7 fl = some (.lst xs) ∧ xs' = xs ++ [.ref p] ∧ (∀ l2 ∈ ws ++ [l], isWork (1 + r) (workD l2) = true) ∧ DenAll K (upd H7 fl (.lst xs')) ((ws ++ [l]).map workD) xs' ∧ But t H (upd H7 fl (.lst xs')) ∧ Tape K (upd H7 fl (.lst xs')) t a ns := by
        intro l p H7 hwk b7 T7 hp7
        have hx7 : H7 fl = some (.lst xs) := b7 fl _ (Ne.symm ntf) hx
        have hd7 := T5.denAll b7 (noLists_map _ noList_work ws) hd
        have b8 : But fl H7 (upd H7 fl (.lst (xs ++ [.ref p]))) := But.at
        refine ⟨_, hx7, rfl, fun l2 hl2 => ?_, ?_, fun b o nb hb => ?_, T7.wr b8 ntf⟩
        · rcases List.mem_append.mp hl2 with h | h
          · exact hw l2 h
          · rw [List.mem_singleton.mp h]; exact hwk
        · rw [List.map_append]
          exact denAll_append (b8.denAll hx7 _ _ (noLists_map _ noList_work ws) hd7) (denAll_cons.mpr ⟨_, _, rfl, den_tints.mpr ⟨p, rfl, b8.seqT hx7 hp7⟩, denAll_nil.mpr rfl⟩)
        · rw [upd_ne (fun z => by rw [z, hfl0] at hb; cases hb)]
          exact (b5.trans b7) b o nb hb
      refine ⟨_, rfl, 1 + r, rfl, by omega, by omega, comp_range (lo := 0) (n := (1 + r).toNat) (fun σ => ∃ v, σ = [v, some (.int (1 + kd)), some (.ref t)]) (fun j ys H6 => ∃ l : List Int, ys = l.map V.int ∧ l.Pairwise (· < ·) ∧ (∀ x ∈ l, 0 ≤ x ∧ x < j) ∧ But t H5 H6 ∧ Tape K H6 t a ns) (size1 (by omega)) ⟨none, rfl⟩
        ⟨[], rfl, .nil, fun _ h => (List.not_mem_nil h).elim, But.refl t H5, T5⟩ ?_ ?_ ?_⟩
      · rintro j ys H6 ⟨l, rfl, h1, h2, _⟩
        rw [List.length_map]
        have := work_short (n := (j : Int)) (by omega) h2 h1
        omega
      · rintro j ys σ H6 hj ⟨v, rfl⟩ ⟨l, rfl, h1, h2, b6, T6⟩ hz
        refine ⟨_, rfl, t, a, ns, 5, rfl, T6, by decide, by decide, fun r7 H7 _ _ b7 T7 => ⟨_, rfl, _, _, rfl, rfl, _, rfl, ?_⟩⟩
        refine ite2 (fun c => ?_) (fun c => ?_)
        · refine ⟨_, rfl, hz, ⟨_, rfl⟩, l ++ [(j : Int)], by simp, List.pairwise_append.mpr ⟨h1, by simp, fun x hx y hy => ?_⟩, fun x hx => ?_, b6.trans b7, T7⟩
          · rw [List.mem_singleton.mp hy]; exact (h2 x hx).2
          · rcases List.mem_append.mp hx with hx | hx
            · have := h2 x hx; omega
            · rw [List.mem_singleton.mp hx]; omega
        · refine ⟨⟨_, rfl⟩, l, rfl, h1, fun x hx => ?_, b6.trans b7, T7⟩
          have := h2 x hx; omega
      · rintro ys H6 ⟨l, rfl, h1, h2, b6, T6⟩ ap hap
        have hapt : ap ≠ t := T6.ne hap
        have s7 := Same.new (o := .lst (l.map V.int)) hap
        have e7 : upd H6 ap (.lst (l.map V.int)) ap = some (.lst (l.map V.int)) := upd_same
        have b7 := b6.trans (But.of (t := t) s7)
        have T7 := T6.same s7
        generalize upd H6 ap (.lst (l.map V.int)) = H7 at s7 e7 b7 T7 ⊢
        refine ⟨_, rfl, size1 (Nat.zero_le _), fun z hz => ?_⟩
        have s8 := Same.new (o := .lst []) hz
        refine ⟨.list (l.map .int), .list (([] : List Int).map .int), den_lints.mpr ⟨ap, rfl, s8.seqL (SqL.of e7)⟩, den_lints.mpr ⟨z, rfl, SqL.of upd_same⟩, noDict_ints _, noDict_ints _, shaped_ints _, shaped_ints _, _, rfl, ?_⟩
        rw [eqv_lints]
        have e8 := s8 _ _ e7
        have b8 := b7.trans (But.of (t := t) s8)
        have T8 := T7.same s8
        generalize upd H7 z (.lst []) = H8 at e8 b8 T8 ⊢
        by_cases hln : l = []
        · rw [decide_eq_true hln]
          refine iteT ?_
          refine ⟨_, rfl, _, rfl, t, a, ns, 1 + r, rfl, T8, by omega, by omega, fun r9 H9 h90 h91 b9 T9 => ⟨sz1 _, fun l9 hl9 => ?_⟩⟩
          have s10 := Same.new (o := .lst [.int r9]) hl9
          have b10 := b8.trans (b9.trans (But.of s10))
          have T10 := T9.same s10
          have e10 : upd H9 l9 (.lst [.int r9]) l9 = some (.lst [.int r9]) := upd_same
          generalize upd H9 l9 (.lst [.int r9]) = H10 at b10 T10 e10 ⊢
          have hx10 := b10 fl _ (Ne.symm ntf) hx
          refine ⟨_, rfl, .inl ⟨rfl, _, SqL.of hx10⟩, _, rfl, l9, _, rfl, .inl ⟨SqL.of e10, fun q hq => ?_⟩⟩
          have s11 := Same.new (o := .tup [.int r9]) hq
          obtain ⟨xs', n1, n2, n3, n4, n5, n6⟩ := next [r9] q _ (work_of (by simp) (fun y hy => by rw [List.mem_singleton.mp hy]; omega) (by simp)) (b10.trans (But.of s11)) (T10.same s11) (SqT.of upd_same)
          subst n2
          exact ⟨fl, xs, .ref q, rfl, rfl, n1, by rw [sizeLine_eq]; omega, ws ++ [[r9]], _, _, _, rfl, by rw [List.length_append, hl]; rfl, n3, upd_same, n4, n5, n6⟩
        · rw [decide_eq_false hln]
          refine iteF ?_
          have hx8 := b8 fl _ (Ne.symm ntf) hx
          refine ⟨_, rfl, .inl ⟨rfl, _, SqL.of hx8⟩, _, rfl, ap, _, rfl, .inl ⟨SqL.of e8, fun q hq => ?_⟩⟩
          have s11 := Same.new (o := .tup (l.map V.int)) hq
          obtain ⟨xs', n1, n2, n3, n4, n5, n6⟩ := next l q _ (work_of hln (fun y hy => by have := h2 y hy; omega) h1) (b8.trans (But.of s11)) (T8.same s11) (SqT.of upd_same)
          subst n2
          exact ⟨fl, xs, .ref q, rfl, rfl, n1, by rw [sizeLine_eq]; omega, ws ++ [l], _, _, _, rfl, by rw [List.length_append, hl]; rfl, n3, upd_same, n4, n5, n6⟩
    · rintro σ H5 ⟨ws, xs, v, v2, rfl, hl, hw, hx, hd, b5, T5⟩
      refine ⟨_, rfl, _, rfl, fl, _, rfl, .inl ⟨SqL.of hx, fun q hq => ⟨sz2 _ _, fun p hp => ?_⟩⟩⟩
      have sm := (Same.new (o := .tup xs) hq).trans (Same.new (o := .tup [.int (1 + r), .ref q]) hp)
      refine k (1 + r) ws p _ (book_of (by omega) (by omega) (by omega) hw) (by omega) (by omega) (b5.trans (But.of sm)) (T5.same sm) ?_
      refine den_bookI (SqT.of upd_same) ((Same.new hp).seqT (SqT.of upd_same)) (sm.denAll _ _ hd)
end
end Ab
set_option Elab.async false
set_option linter.all false
set_option maxRecDepth 100000
namespace Ab
open PySem L2
def dlW (h : Int) : List Int → List Int → Int
  | x :: b, w :: wt => (if x = h then w else 0) + dlW h b wt
  | _, _ => 0
def dealtW (n : Int) (wt b : List Int) : List Int := (upto n.toNat).map fun h => dlW h b wt
def withinW (s l : List Int) : Bool := l.all fun h => decide (h ∈ s)
def bhW (s : List Int) : List (List Int) → List Int → Int
  | l :: ws, w :: wt => (if withinW s l = true then w else 0) + bhW s ws wt
  | _, _ => 0
def allSetsW (hs : List Int) : List (List Int) := hs.foldl (fun acc h => acc ++ acc.map (· ++ [h])) [[]]
def setsW (hs : List Int) : List (List Int) := (allSetsW hs).tail
def showsW (n : Int) (ws : List (List Int)) (wt b : List Int) (m : Int) : Bool :=
  (setsW (upto n.toNat)).any fun s => decide ((s.length : Int) * (m - 1) < sumTo (s.map fun h => dlW h b wt) + bhW s (ws.drop b.length) (wt.drop b.length))
def begW : List (List Int) → List Int → Bool
  | _, [] => true
  | l :: ws, x :: b => decide (x ∈ l) && begW ws b
  | [], _ :: _ => false
def IsMaxW (M : Int) (l : List Int) : Prop := M ∈ l ∧ ∀ a ∈ l, a ≤ M
theorem allSetsW_snoc (hs : List Int) (x : Int) : allSetsW (hs ++ [x]) = allSetsW hs ++ (allSetsW hs).map (· ++ [x]) := by
  unfold allSetsW
  rw [List.foldl_append]
  rfl
theorem snoc_ind {p : List Int → Prop} (h0 : p []) (h1 : ∀ l x, p l → p (l ++ [x])) : ∀ l, p l := by
  intro l
  have : ∀ r : List Int, p r.reverse := by
    intro r
    induction r with
    | nil => exact h0
    | cons x r ih => rw [List.reverse_cons]; exact h1 _ _ ih
  have h := this l.reverse
  rwa [List.reverse_reverse] at h
theorem allSetsW_cons : ∀ hs : List Int, allSetsW hs = [] :: setsW hs := by
  refine snoc_ind rfl fun l x ih => ?_
  unfold setsW
  rw [allSetsW_snoc, ih]
  rfl
theorem setsW_snoc (hs : List Int) (x : Int) : setsW (hs ++ [x]) = setsW hs ++ [x] :: (setsW hs).map (· ++ [x]) := by
  have h := allSetsW_snoc hs x
  rw [allSetsW_cons (hs ++ [x]), allSetsW_cons hs] at h
  rw [List.map_cons, List.cons_append] at h
  injection h
theorem setsW_in : ∀ hs : List Int, ∀ s ∈ setsW hs, ∀ h ∈ s, h ∈ hs := by
  refine snoc_ind (fun s hs => by cases hs) fun l x ih s hs h hh => ?_
  rw [setsW_snoc] at hs
  rcases List.mem_append.mp hs with hs | hs
  · exact List.mem_append_left _ (ih s hs h hh)
  · rcases List.mem_cons.mp hs with rfl | hs
    · exact List.mem_append_right _ hh
    · obtain ⟨s', h1, rfl⟩ := List.mem_map.mp hs
      rcases List.mem_append.mp hh with hh | hh
      · exact List.mem_append_left _ (ih s' h1 h hh)
      · exact List.mem_append_right _ hh
theorem setsW_one : ∀ hs : List Int, ∀ h ∈ hs, [h] ∈ setsW hs := by
  refine snoc_ind (fun h hh => by cases hh) fun l x ih h hh => ?_
  rw [setsW_snoc]
  rcases List.mem_append.mp hh with hh | hh
  · exact List.mem_append_left _ (ih h hh)
  · rw [List.mem_singleton.mp hh]
    exact List.mem_append_right _ (List.mem_cons_self ..)
theorem setsW_len : ∀ hs : List Int, (setsW hs).length + 1 = 2 ^ hs.length := by
  refine snoc_ind rfl fun l x ih => ?_
  rw [setsW_snoc, List.length_append, List.length_cons, List.length_map, List.length_append, List.length_singleton, Nat.pow_succ, ← ih]
  omega
theorem setsW_short : ∀ hs : List Int, ∀ s ∈ setsW hs, s.length ≤ hs.length := by
  refine snoc_ind (fun s hs => by cases hs) fun l x ih s hs => ?_
  rw [setsW_snoc] at hs
  rw [List.length_append, List.length_singleton]
  rcases List.mem_append.mp hs with hs | hs
  · have := ih s hs; omega
  · rcases List.mem_cons.mp hs with rfl | hs
    · simp
    · obtain ⟨s', h1, rfl⟩ := List.mem_map.mp hs
      have := ih s' h1
      rw [List.length_append, List.length_singleton]
      omega
theorem dlW_nil {h : Int} {wt : List Int} : dlW h [] wt = 0 := by cases wt <;> rfl
theorem dlW_app {h : Int} : ∀ (b c wt : List Int), dlW h (b ++ c) wt = dlW h b wt + dlW h c (wt.drop b.length)
  | [], c, wt => by rw [dlW_nil]; simp
  | x :: b, c, [] => by
    show (0 : Int) = 0 + dlW h c _
    rw [List.drop_nil]
    cases c <;> rfl
  | x :: b, c, w :: wt => by
    show (if x = h then w else 0) + dlW h (b ++ c) wt = (if x = h then w else 0) + dlW h b wt + dlW h c (wt.drop b.length)
    rw [dlW_app b c wt]
    omega
theorem dlW_pos {h : Int} : ∀ (b wt : List Int), (∀ w ∈ wt, 0 ≤ w) → 0 ≤ dlW h b wt ∧ dlW h b wt ≤ sumTo wt
  | [], wt, hw => by
    rw [dlW_nil]
    refine ⟨Int.le_refl _, ?_⟩
    induction wt with
    | nil => exact Int.le_refl _
    | cons w r ih =>
      have h1 := hw w (List.mem_cons_self ..)
      have h2 := ih fun x hx => hw x (List.mem_cons_of_mem _ hx)
      show 0 ≤ w + sumTo r
      omega
  | x :: b, [], hw => ⟨Int.le_refl _, Int.le_refl _⟩
  | x :: b, w :: wt, hw => by
    have h1 := hw w (List.mem_cons_self ..)
    have h2 := dlW_pos (h := h) b wt fun x hx => hw x (List.mem_cons_of_mem _ hx)
    show 0 ≤ (if x = h then w else 0) + dlW h b wt ∧ (if x = h then w else 0) + dlW h b wt ≤ w + sumTo wt
    split <;> omega
theorem sum_addW (f g : Int → Int) : ∀ s : List Int, sumTo (s.map fun h => f h + g h) = sumTo (s.map f) + sumTo (s.map g)
  | [] => rfl
  | x :: s => by
    show f x + g x + sumTo (s.map fun h => f h + g h) = f x + sumTo (s.map f) + (g x + sumTo (s.map g))
    rw [sum_addW f g s]
    omega
theorem sum_posW (f : Int → Int) (h0 : ∀ h, 0 ≤ f h) : ∀ s : List Int, 0 ≤ sumTo (s.map f)
  | [] => Int.le_refl _
  | x :: s => by
    have h1 := h0 x
    have h2 := sum_posW f h0 s
    show 0 ≤ f x + sumTo (s.map f)
    omega
theorem sum_memW (f : Int → Int) (h0 : ∀ h, 0 ≤ f h) {x : Int} : ∀ s : List Int, x ∈ s → f x ≤ sumTo (s.map f)
  | [], h => by cases h
  | y :: s, h => by
    have h1 := h0 y
    have h2 := sum_posW f h0 s
    show f x ≤ f y + sumTo (s.map f)
    rcases List.mem_cons.mp h with rfl | h
    · omega
    · have := sum_memW f h0 s h
      omega
theorem sum_leW (f : Int → Int) {c : Int} : ∀ s : List Int, (∀ h ∈ s, f h ≤ c) → sumTo (s.map f) ≤ s.length * c
  | [], _ => by show (0 : Int) ≤ 0 * c; omega
  | y :: s, h => by
    have h1 := h y (List.mem_cons_self ..)
    have h2 := sum_leW f s fun x hx => h x (List.mem_cons_of_mem _ hx)
    show f y + sumTo (s.map f) ≤ ((s.length + 1 : Nat) : Int) * c
    have : ((s.length + 1 : Nat) : Int) * c = s.length * c + c := by rw [Int.natCast_add, Int.add_mul]; simp
    omega
theorem bh_leW {s : List Int} : ∀ (ws : List (List Int)) (c wt : List Int), (∀ w ∈ wt, 0 ≤ w) → begW ws c = true → c.length = ws.length → bhW s ws wt ≤ sumTo (s.map fun h => dlW h c wt)
  | [], c, wt, hw, hb, hl => by
    have : c = [] := List.length_eq_zero_iff.mp hl
    subst this
    show (0 : Int) ≤ _
    exact sum_posW _ (fun h => (dlW_pos _ _ hw).1) _
  | l :: ws, [], wt, hw, hb, hl => by cases hl
  | l :: ws, x :: c, [], hw, hb, hl => sum_posW _ (fun h => (dlW_pos _ _ hw).1) _
  | l :: ws, x :: c, w :: wt, hw, hb, hl => by
    obtain ⟨hx, hb⟩ : decide (x ∈ l) = true ∧ begW ws c = true := by
      have : (decide (x ∈ l) && begW ws c) = true := hb
      simpa using this
    have hw1 := hw w (List.mem_cons_self ..)
    have ih := bh_leW (s := s) ws c wt (fun x hx => hw x (List.mem_cons_of_mem _ hx)) hb (by simpa using hl)
    show (if withinW s l = true then w else 0) + bhW s ws wt ≤ sumTo (s.map fun h => (if x = h then w else 0) + dlW h c wt)
    rw [sum_addW]
    have h0 : ∀ h, 0 ≤ (fun h => if x = h then w else 0) h := fun h => by show 0 ≤ if x = h then w else 0; split <;> omega
    by_cases hin : withinW s l = true
    · rw [if_pos hin]
      have hxs : x ∈ s := by
        have := List.all_eq_true.mp hin x (of_decide_eq_true hx)
        exact of_decide_eq_true this
      have h1 := sum_memW (fun h => if x = h then w else 0) h0 s hxs
      have e : (if x = x then w else 0) = w := if_pos rfl
      have h1 : (if x = x then w else 0) ≤ _ := h1
      rw [e] at h1
      omega
    · rw [if_neg hin]
      have h1 := sum_posW (fun h => if x = h then w else 0) h0 s
      omega
theorem begW_split : ∀ (ws : List (List Int)) (b c : List Int), begW ws (b ++ c) = true → begW ws b = true ∧ begW (ws.drop b.length) c = true
  | ws, [], c, h => ⟨by cases ws <;> rfl, by simpa using h⟩
  | [], x :: b, c, h => by cases h
  | l :: ws, x :: b, c, h => by
    have h' : (decide (x ∈ l) && begW ws (b ++ c)) = true := h
    rw [Bool.and_eq_true] at h'
    obtain ⟨h1, h2⟩ := begW_split ws b c h'.2
    refine ⟨?_, ?_⟩
    · show (decide (x ∈ l) && begW ws b) = true
      rw [h'.1, h1]; rfl
    · show begW ((l :: ws).drop (b.length + 1)) c = true
      rw [List.drop_succ_cons]; exact h2
theorem begW_join : ∀ (ws : List (List Int)) (b c : List Int), begW ws b = true → begW (ws.drop b.length) c = true → begW ws (b ++ c) = true
  | ws, [], c, _, h => by simpa using h
  | [], x :: b, c, h, _ => by cases h
  | l :: ws, x :: b, c, h, h2 => by
    have h' : (decide (x ∈ l) && begW ws b) = true := h
    rw [Bool.and_eq_true] at h'
    show (decide (x ∈ l) && begW ws (b ++ c)) = true
    rw [h'.1, begW_join ws b c h'.2 (by have := h2; rw [List.length_cons, List.drop_succ_cons] at this; exact this)]
    rfl
theorem begW_len : ∀ (ws : List (List Int)) (b : List Int), begW ws b = true → b.length ≤ ws.length
  | ws, [], _ => Nat.zero_le _
  | [], x :: b, h => by cases h
  | l :: ws, x :: b, h => by
    have h' : (decide (x ∈ l) && begW ws b) = true := h
    rw [Bool.and_eq_true] at h'
    have := begW_len ws b h'.2
    rw [List.length_cons, List.length_cons]; omega
theorem begW_at : ∀ (ws : List (List Int)) (b : List Int), begW ws b = true → ∀ (i : Nat) (l : List Int) (x : Int), ws[i]? = some l → b[i]? = some x → x ∈ l
  | ws, [], _, i, l, x, _, h => by cases h
  | [], y :: b, h, _, _, _, _, _ => by cases h
  | l0 :: ws, y :: b, h, i, l, x, h1, h2 => by
    have h' : (decide (y ∈ l0) && begW ws b) = true := h
    rw [Bool.and_eq_true] at h'
    cases i with
    | zero =>
      cases h1; cases h2
      exact of_decide_eq_true h'.1
    | succ i => exact begW_at ws b h'.2 i l x h1 h2
theorem shows_mono {n : Int} {ws : List (List Int)} {wt b : List Int} {m m' : Int} (h : showsW n ws wt b m = true) (hm : m' ≤ m) : showsW n ws wt b m' = true := by
  unfold showsW at h ⊢
  rw [List.any_eq_true] at h ⊢
  obtain ⟨s, hs, h⟩ := h
  refine ⟨s, hs, decide_eq_true ?_⟩
  have h1 := of_decide_eq_true h
  have h2 : (s.length : Int) * (m' - 1) ≤ s.length * (m - 1) := Int.mul_le_mul_of_nonneg_left (by omega) (by omega)
  omega
theorem shows_geW {n : Int} {ws : List (List Int)} {wt b d : List Int} {m : Int} (hw : ∀ w ∈ wt, 0 ≤ w) (h : showsW n ws wt b m = true) (hp : b <+: d) (hd : begW ws d = true) (hl : d.length = ws.length) : ∃ h ∈ upto n.toNat, m ≤ dlW h d wt := by
  unfold showsW at h
  rw [List.any_eq_true] at h
  obtain ⟨s, hs, h⟩ := h
  have h1 := of_decide_eq_true h
  obtain ⟨c, rfl⟩ := hp
  obtain ⟨_, hc⟩ := begW_split ws b c hd
  have h2 := bh_leW (s := s) (ws.drop b.length) c (wt.drop b.length) (fun x hx => hw x (List.mem_of_mem_drop hx)) hc (by rw [List.length_drop, ← hl, List.length_append]; omega)
  have h3 : sumTo (s.map fun h => dlW h (b ++ c) wt) = sumTo (s.map fun h => dlW h b wt) + sumTo (s.map fun h => dlW h c (wt.drop b.length)) := by
    rw [← sum_addW]
    congr 1
    exact List.map_congr_left fun h _ => dlW_app b c wt
  by_cases hx : ∃ h ∈ upto n.toNat, m ≤ dlW h (b ++ c) wt
  · exact hx
  · exfalso
    have h4 := sum_leW (fun h => dlW h (b ++ c) wt) (c := m - 1) s fun h hh => by
      have := setsW_in _ s hs h hh
      by_cases hh2 : m ≤ dlW h (b ++ c) wt
      · exact (hx ⟨h, this, hh2⟩).elim
      · show dlW h (b ++ c) wt ≤ m - 1
        omega
    omega
theorem bhW_nil {s : List Int} {wt : List Int} : bhW s [] wt = 0 := by cases wt <;> rfl
theorem shows_fullW {n : Int} {ws : List (List Int)} {wt b : List Int} {m h : Int} (hl : b.length = ws.length) (hh : h ∈ upto n.toNat) (hm : m ≤ dlW h b wt) : showsW n ws wt b m = true := by
  unfold showsW
  rw [List.any_eq_true]
  refine ⟨[h], setsW_one _ h hh, decide_eq_true ?_⟩
  rw [hl, List.drop_length, bhW_nil]
  show ((1 : Nat) : Int) * (m - 1) < dlW h b wt + 0 + 0
  omega
theorem shows_notW {n : Int} {ws : List (List Int)} {wt b : List Int} {m M : Int} (hl : b.length = ws.length) (hM : IsMaxW M (dealtW n wt b)) (h : showsW n ws wt b m = false) : M < m := by
  by_cases hx : M < m
  · exact hx
  · exfalso
    obtain ⟨h1, h2⟩ := hM
    obtain ⟨k, hk, rfl⟩ := List.mem_map.mp h1
    rw [shows_fullW (m := m) hl hk (by omega)] at h
    cases h
def szW : Nat → Nat
  | 0 => 1
  | r + 1 => 1 + 4 * szW r
def measW (N : Nat) : List (List Int) → Nat
  | [] => 0
  | b :: r => szW (N - b.length) + measW N r
theorem szW_pos (r : Nat) : 1 ≤ szW r := by cases r <;> simp [szW]
theorem measW_app (N : Nat) : ∀ a b : List (List Int), measW N (a ++ b) = measW N a + measW N b
  | [], b => by simp [measW]
  | x :: a, b => by simp only [List.cons_append, measW, measW_app N a b]; omega
theorem measW_len (N : Nat) : ∀ a : List (List Int), a.length ≤ measW N a
  | [] => Nat.le_refl _
  | x :: a => by
    have h1 := szW_pos (N - x.length)
    have h2 := measW_len N a
    simp only [List.length_cons, measW]
    omega
theorem measW_kids (N : Nat) (b : List Int) : ∀ l : List Int, measW N (l.map fun h => b ++ [h]) = l.length * szW (N - (b.length + 1))
  | [] => by simp [measW]
  | x :: l => by
    simp only [List.map_cons, measW, measW_kids N b l, List.length_append, List.length_cons, List.length_nil, Nat.zero_add]
    rw [Nat.add_mul]
    omega
theorem szW_mono {a b : Nat} (h : a ≤ b) : szW a ≤ szW b := by
  induction h with
  | refl => exact Nat.le_refl _
  | step _ ih => simp only [szW]; omega
structure GThru (n : Int) (ws : List (List Int)) (wt : List Int) (number most : Int) (deal : Option (List Int)) (bars wait : List (List Int)) : Prop where
  bs : ∀ b ∈ bars ++ wait, begW ws b = true
  cov : ∀ d, begW ws d = true → d.length = ws.length → ∃ b ∈ bars ++ wait, b <+: d
  sh : ∀ b ∈ bars, showsW n ws wt b most = true
  dl : (deal = none ∧ most = number) ∨ ∃ d, deal = some d ∧ begW ws d = true ∧ d.length = ws.length ∧ IsMaxW most (dealtW n wt d) ∧ most < number
  sz : bars.length + measW ws.length wait ≤ 21845
theorem gt_start {n number : Int} {ws : List (List Int)} {wt : List Int} (hl : ws.length ≤ 7) : GThru n ws wt number number none [] [[]] := by
  refine ⟨fun b hb => ?_, fun d _ _ => ⟨[], List.mem_singleton.mpr rfl, List.nil_prefix⟩, fun b hb => (List.not_mem_nil hb).elim, .inl ⟨rfl, rfl⟩, ?_⟩
  · rw [List.mem_singleton.mp hb]; cases ws <;> rfl
  · have := szW_mono hl
    have e : szW 7 = 21845 := rfl
    simp only [List.length_nil, measW, Nat.sub_zero]
    omega
section
variable {n number most : Int} {ws : List (List Int)} {wt : List Int} {deal : Option (List Int)} {bars wait : List (List Int)} {b : List Int}
theorem GThru.bar (g : GThru n ws wt number most deal bars (wait ++ [b])) (h : showsW n ws wt b most = true) : GThru n ws wt number most deal (bars ++ [b]) wait := by
  have hm : ∀ x, x ∈ bars ++ [b] ++ wait ↔ x ∈ bars ++ (wait ++ [b]) := fun x => by rw [List.mem_append, List.mem_append, List.mem_append, List.mem_append, or_assoc, or_comm (a := x ∈ [b])]
  refine ⟨fun x hx => g.bs x ((hm x).mp hx), fun d h1 h2 => ?_, fun x hx => ?_, g.dl, ?_⟩
  · obtain ⟨x, hx, hp⟩ := g.cov d h1 h2
    exact ⟨x, (hm x).mpr hx, hp⟩
  · rcases List.mem_append.mp hx with hx | hx
    · exact g.sh x hx
    · rw [List.mem_singleton.mp hx]; exact h
  · have := g.sz
    have h1 := szW_pos (ws.length - b.length)
    rw [measW_app] at this
    simp only [measW] at this
    rw [List.length_append, List.length_singleton]
    omega
theorem GThru.full (g : GThru n ws wt number most deal bars (wait ++ [b])) (hl : b.length = ws.length) {M : Int} (hM : IsMaxW M (dealtW n wt b)) (h : showsW n ws wt b most = false) : GThru n ws wt number M (some b) (bars ++ [b]) wait := by
  have hlt := shows_notW hl hM h
  have hm : ∀ x, x ∈ bars ++ [b] ++ wait ↔ x ∈ bars ++ (wait ++ [b]) := fun x => by rw [List.mem_append, List.mem_append, List.mem_append, List.mem_append, or_assoc, or_comm (a := x ∈ [b])]
  have hnum : most ≤ number := by
    rcases g.dl with h | ⟨d, _, _, _, _, h⟩
    · omega
    · omega
  refine ⟨fun x hx => g.bs x ((hm x).mp hx), fun d h1 h2 => ?_, fun x hx => ?_, .inr ⟨b, rfl, g.bs b (by simp), hl, hM, by omega⟩, ?_⟩
  · obtain ⟨x, hx, hp⟩ := g.cov d h1 h2
    exact ⟨x, (hm x).mpr hx, hp⟩
  · rcases List.mem_append.mp hx with hx | hx
    · exact shows_mono (g.sh x hx) (by omega)
    · rw [List.mem_singleton.mp hx]
      obtain ⟨k, hk, e⟩ := List.mem_map.mp hM.1
      exact shows_fullW hl hk (by rw [e]; exact Int.le_refl _)
  · have := g.sz
    have h1 := szW_pos (ws.length - b.length)
    rw [measW_app] at this
    simp only [measW] at this
    rw [List.length_append, List.length_singleton]
    omega
theorem prefix_next {b d : List Int} (h : b <+: d) (hl : b.length < d.length) : ∃ x, d[b.length]? = some x ∧ b ++ [x] <+: d := by
  obtain ⟨c, rfl⟩ := h
  cases c with
  | nil => simp at hl
  | cons x c => exact ⟨x, by simp, ⟨c, by simp⟩⟩
theorem GThru.kids (g : GThru n ws wt number most deal bars (wait ++ [b])) {l : List Int} (hl : ws[b.length]? = some l) (h4 : l.length ≤ 4) : GThru n ws wt number most deal bars (wait ++ (l.reverse.map fun h => b ++ [h])) := by
  have hb := g.bs b (by simp)
  have hlt : b.length < ws.length := (List.getElem?_eq_some_iff.mp hl).1
  refine ⟨fun x hx => ?_, fun d h1 h2 => ?_, g.sh, g.dl, ?_⟩
  · rcases List.mem_append.mp hx with hx | hx
    · exact g.bs x (List.mem_append_left _ hx)
    · rcases List.mem_append.mp hx with hx | hx
      · exact g.bs x (by simp [hx])
      · obtain ⟨y, hy, rfl⟩ := List.mem_map.mp hx
        refine begW_join ws b [y] hb ?_
        rw [List.drop_eq_getElem_cons hlt]
        have e : ws[b.length] = l := by have := List.getElem?_eq_getElem hlt; rw [hl] at this; injection this with h; exact h.symm
        show (decide (y ∈ ws[b.length]) && begW _ []) = true
        rw [e, decide_eq_true (List.mem_reverse.mp hy)]
        cases (List.drop (b.length + 1) ws) <;> rfl
  · obtain ⟨x, hx, hp⟩ := g.cov d h1 h2
    by_cases hxb : x = b
    · subst hxb
      obtain ⟨y, hy, hp2⟩ := prefix_next hp (by omega)
      refine ⟨x ++ [y], ?_, hp2⟩
      refine List.mem_append_right _ (List.mem_append_right _ (List.mem_map.mpr ⟨y, ?_, rfl⟩))
      exact List.mem_reverse.mpr (begW_at ws d h1 _ l y hl hy)
    · refine ⟨x, ?_, hp⟩
      rcases List.mem_append.mp hx with hx | hx
      · exact List.mem_append_left _ hx
      · rcases List.mem_append.mp hx with hx | hx
        · exact List.mem_append_right _ (List.mem_append_left _ hx)
        · exact (hxb (List.mem_singleton.mp hx)).elim
  · have := g.sz
    rw [measW_app] at this ⊢
    rw [measW_kids, List.length_reverse]
    simp only [measW] at this
    have e : ws.length - b.length = (ws.length - (b.length + 1)) + 1 := by omega
    rw [e] at this
    simp only [szW] at this
    have : l.length * szW (ws.length - (b.length + 1)) ≤ 4 * szW (ws.length - (b.length + 1)) := Nat.mul_le_mul_right _ h4
    omega
theorem kids_less (N : Nat) {l : List Int} (hb : b.length < N) (h4 : l.length ≤ 4) : measW N (wait ++ (l.reverse.map fun h => b ++ [h])) < measW N (wait ++ [b]) := by
  rw [measW_app, measW_app, measW_kids, List.length_reverse]
  simp only [measW]
  have e : N - b.length = (N - (b.length + 1)) + 1 := by omega
  rw [e]
  simp only [szW]
  have : l.length * szW (N - (b.length + 1)) ≤ 4 * szW (N - (b.length + 1)) := Nat.mul_le_mul_right _ h4
  omega
theorem pop_less (N : Nat) : measW N wait < measW N (wait ++ [b]) := by
  rw [measW_app]
  simp only [measW]
  have := szW_pos (N - b.length)
  omega
end
structure LeastW (n : Int) (ws : List (List Int)) (wt : List Int) (most : Int) (deal : List Int) (bars : List (List Int)) : Prop where
  db : begW ws deal = true
  dn : deal.length = ws.length
  mx : IsMaxW most (dealtW n wt deal)
  bs : ∀ b ∈ bars, begW ws b = true
  cov : ∀ d, begW ws d = true → d.length = ws.length → ∃ b ∈ bars, b <+: d
  sh : ∀ b ∈ bars, showsW n ws wt b most = true
  len : bars.length ≤ 21845
theorem heads_beg : ∀ ws : List (List Int), (∀ l ∈ ws, l ≠ []) → ∃ d, begW ws d = true ∧ d.length = ws.length
  | [], _ => ⟨[], rfl, rfl⟩
  | l :: ws, h => by
    obtain ⟨d, h1, h2⟩ := heads_beg ws fun x hx => h x (List.mem_cons_of_mem _ hx)
    cases l with
    | nil => exact (h [] (List.mem_cons_self ..) rfl).elim
    | cons x l =>
      refine ⟨x :: d, ?_, by rw [List.length_cons, List.length_cons, h2]⟩
      show (decide (x ∈ x :: l) && begW ws d) = true
      rw [decide_eq_true (List.mem_cons_self ..), h1]; rfl
theorem gt_first {n : Int} {ws : List (List Int)} {wt : List Int} {most : Int} {deal : Option (List Int)} {bars : List (List Int)} (hw : ∀ w ∈ wt, 0 ≤ w) (hne : ∀ l ∈ ws, l ≠ []) (g : GThru n ws wt (sumTo wt + 1) most deal bars []) : ∃ d, deal = some d ∧ begW ws d = true ∧ d.length = ws.length ∧ IsMaxW most (dealtW n wt d) := by
  rcases g.dl with ⟨h1, h2⟩ | ⟨d, h1, h2, h3, h4, _⟩
  · exfalso
    obtain ⟨d, hd, hl⟩ := heads_beg ws hne
    obtain ⟨b, hb, hp⟩ := g.cov d hd hl
    rw [List.append_nil] at hb
    obtain ⟨h, _, hx⟩ := shows_geW hw (g.sh b hb) hp hd hl
    have := (dlW_pos (h := h) d wt hw).2
    omega
  · exact ⟨d, h1, h2, h3, h4⟩
theorem gt_least {n : Int} {ws : List (List Int)} {wt : List Int} {most num : Int} {deal : Option (List Int)} {bars : List (List Int)} (hw : ∀ w ∈ wt, 0 ≤ w) (g : GThru n ws wt num most deal bars []) {d : List Int} (hd : begW ws d = true) (hl : d.length = ws.length) : ∃ h ∈ upto n.toNat, most ≤ dlW h d wt := by
  obtain ⟨b, hb, hp⟩ := g.cov d hd hl
  rw [List.append_nil] at hb
  exact shows_geW hw (g.sh b hb) hp hd hl
theorem gt_second {n : Int} {ws : List (List Int)} {wt : List Int} {num1 most most2 : Int} {d : List Int} {deal1 deal2 : Option (List Int)} {bars1 bars2 : List (List Int)} (hw : ∀ w ∈ wt, 0 ≤ w) (g1 : GThru n ws wt num1 most deal1 bars1 []) (hd : begW ws d = true) (hl : d.length = ws.length) (hM : IsMaxW most (dealtW n wt d)) (g2 : GThru n ws wt most most2 deal2 bars2 []) : LeastW n ws wt most d bars2 := by
  have e : most2 = most := by
    rcases g2.dl with ⟨_, h⟩ | ⟨d2, _, h2, h3, h4, h5⟩
    · exact h
    · exfalso
      obtain ⟨h, hh, hx⟩ := gt_least hw g1 h2 h3
      have := h4.2 _ (List.mem_map.mpr ⟨h, hh, rfl⟩)
      omega
  have sz := g2.sz
  refine ⟨hd, hl, hM, fun b hb => g2.bs b (List.mem_append_left _ hb), fun d' h1 h2 => ?_, fun b hb => e ▸ g2.sh b hb, by omega⟩
  obtain ⟨b, hb, hp⟩ := g2.cov d' h1 h2
  rw [List.append_nil] at hb
  exact ⟨b, hb, hp⟩
end Ab
set_option Elab.async false
set_option linter.all false
set_option maxRecDepth 100000
namespace Ab
open PySem L2
theorem iteFx {b : Bool} {A B : Prop} (e : b = false) (h : B) : if b = true then A else B := by subst e; exact iteF h
theorem iteTx {b : Bool} {A B : Prop} (e : b = true) (h : A) : if b = true then A else B := by subst e; exact iteT h
theorem ne_self (v : V) : (!decide (v = v)) = false := by simp
def WtOk (ws : List (List Int)) (wt : List Int) : Prop := wt.length = ws.length ∧ ∀ w ∈ wt, 0 ≤ w ∧ w ≤ 99
theorem sq_kd {K : PySem.W.Frag} {H : Hp} {p : Addr} {l : List Int} (h : SqT K H p (l.map V.int)) : Den K H (.tuple (l.map .int)) (.ref p) := den_tints.mpr ⟨p, rfl, h⟩
theorem rep_bl {n i : Nat} {b : Bool} {v : V} (h : ((List.replicate n b).map V.bl)[i]? = some v) : v = .bl b := by
  rw [List.getElem?_map] at h
  obtain ⟨c, hc, rfl⟩ := Option.map_eq_some_iff.mp h
  rw [List.eq_of_mem_replicate (List.mem_of_getElem? hc)]
theorem in_memI (i : Int) (l : List Int) : inV (.int i) (l.map V.int) = decide (i ∈ l) := by
  rw [in_ints, Bool.eq_iff_iff, List.any_eq_true, decide_eq_true_iff]
  exact ⟨fun ⟨y, h1, h2⟩ => by have : y = i := by simpa using h2
                               rw [← this]; exact h1, fun h => ⟨i, h, by simp⟩⟩
theorem allSetsW_len (hs : List Int) : (allSetsW hs).length = 2 ^ hs.length := by rw [allSetsW_cons, List.length_cons, setsW_len]
theorem allSetsW_short (hs : List Int) : ∀ s ∈ allSetsW hs, s.length ≤ hs.length := fun s h => by
  rw [allSetsW_cons] at h
  rcases List.mem_cons.mp h with rfl | h
  · exact Nat.zero_le _
  · exact setsW_short hs s h
theorem pow2_le {m n : Nat} (h : m ≤ n) : 2 ^ m ≤ 2 ^ n := Nat.pow_le_pow_right (by decide) h
section
variable {P : Program} {w : World} {K : PySem.W.Frag} {mg : Str → Option Value} {base : Heap}
variable {fW fH fK fB fNB : Addr} {dW dH dK dB dNB : FuncData}
def spAreWt (K : PySem.W.Frag) : Sp := fun vs H Q _ => ∃ (x : V) (n : Int) (ws : List (List Int)) (wp : Addr) (wt : List Int), vs = [x, .ref wp] ∧ Den K H (bookD n ws) x ∧ isBook (bookD n ws) = true ∧ SqT K H wp (wt.map V.int) ∧ WtOk ws wt ∧ ∀ H', Same H H' → Q (.bl true) H'
theorem scAreWt : FnScope ["book", "thing"] ["book", "thing"] (defScope sAreWt) := ⟨rfl, rfl, rfl, by decide +kernel, rfl, by decide +kernel, by decide +kernel⟩
theorem ok_areWt {f : Addr} {fd : FuncData} (G : Fn K mg "are_weights" sAreWt ["book", "thing"] f fd) (B : Bl mg) (R : Pr K mg fW fH fK fB fNB dW dH dK dB dNB) : FnOk P w K mg base CX0 5 f fd ["book", "thing"] (spAreWt K) := by
  have OW : FnOk P w K mg base CX0 1 fW dW ["thing"] (spWhole K) := ok_whole R.W B
  have ONB : FnOk P w K mg base CX0 4 fNB dNB ["book"] (spNeedB K) := ok_needB B R
  obtain ⟨tmw, hmw⟩ := B.mw
  refine G.fn.ok scAreWt (fun vs H Q E h => ?_) (fun cdv A outer s H vs Q E hr h => ?_)
  · obtain ⟨x, n, ws, wp, wt, rfl, _⟩ := h
    rfl
  · obtain ⟨x, n, ws, wp, wt, rfl, hx, hbk, hw, hwt, k⟩ := h
    have r1 : Room 1 _ := hr.mono (by decide)
    have r4 : Room 4 _ := hr
    refine ⟨_, (pss_cons (ps_expr (pe_fn R.NB ONB r4 rfl (pa_cons (pv 0) pa_nil)))
    (pss_cons (ps_if (PW.pt (pw_or (pt_not (pt_val (pe_callB call_isi_tuple rfl B.isinstance b_isi (pa_cons (pv 1) (pa_cons (pe_bltn (v := .ty "tuple") rfl B.tuple b_tuple rfl) pa_nil))))) (pw_or1 (pt_cmpR op_ne (pe_callB call_len_seq rfl B.len b_len (pa_cons (pv 1) pa_nil)) (pe_callB call_len_seq rfl B.len b_len (pa_cons (pe_ix ix_tup (pv 0) pe_int (fun _ _ => rfl)) pa_nil)) (nomark _)))))
      (pss_one (ps_ret pe_bl))
      pss_nil)
    (pss_one (ps_ret (pe_callB (call_all rfl) rfl B.all b_all (pa_cons (pe_comp (own := ["weight"]) (fr := []) (frn := []) (compOk_of (defScope sAreWt) ["book", "thing"] rfl rfl (by decide +kernel)) rfl (pi_tup (pv 1))
        (fun _ _ _ _ => (pg_name (i := 0) (show (["weight"] : List Str).Nodup by decide +kernel) rfl (Or.inl rfl))) (fun _ _ _ _ => pf_nil)
        (fun _ _ _ _ => (pe_and (pe_fn R.W OW r1 rfl (pa_cons (pv 0) pa_nil)) (pe_one (pe_chain op_le op_le pe_int (pv 0) (pe_glob (v := .int 99) rfl hmw ⟨tmw, rfl⟩)))))) pa_nil)))))), ?_⟩
    refine ⟨_, rfl, x, _, rfl, hx, hbk, fun H1 s1 => ?_⟩
    have hw1 := s1.seqT hw
    obtain ⟨c, b, ys, e, hc, hb1, hys1⟩ := den_book (s1.den _ _ hx)
    cases e
    have hly := denAll_length hys1
    rw [List.length_map] at hly
    obtain ⟨_, _, h12, _⟩ := book_parts hbk
    refine ⟨_, rfl, .ref wp, .tup, rfl, (sq_kd hw1).kd, _, rfl, ?_⟩
    refine iteF ?_
    refine ⟨_, rfl, wp, _, rfl, .inr hw1, _, rfl, c, _, 1, .ref b, rfl, rfl, hc, rfl, b, ys, rfl, .inr hb1, rfl, _, rfl, ?_⟩
    refine iteFx (by rw [List.length_map, hwt.1, hly]; exact ne_self _) ?_
    refine ⟨_, rfl, wp, rfl, ⟨_, hw1⟩, comp_fnT (K := K) (a := wp) (xs := wt.map V.int) (vs := (List.replicate wt.length true).map V.bl) (fun σ => ∃ v, σ = [v]) (by rw [List.length_map, hwt.1]; omega) (by simp) hw1 ⟨none, rfl⟩ ?_ ?_⟩
    · rintro i u v σ H2 hu hv ⟨v0, rfl⟩ s2 Q' k'
      rw [rep_bl hv] at k'
      obtain ⟨z, hz, rfl⟩ := List.mem_map.mp (List.mem_of_getElem? hu)
      have := hwt.2 z hz
      refine ⟨_, rfl, .int z, .int z, rfl, den_int.mpr rfl, _, rfl, iteT ?_⟩
      refine ⟨_, rfl, _, _, rfl, rfl, _, rfl, iteTx (decide_eq_true this.1) ⟨_, _, rfl, rfl, ?_⟩⟩
      show Q' (.bl (decide (z ≤ 99))) _ _
      rw [decide_eq_true this.2]
      exact k' _ _ ⟨_, rfl⟩ (Same.refl _)
    · intro H3 s3 p hp
      refine ⟨p, List.replicate wt.length true, rfl, SqL.of upd_same, ?_⟩
      rw [show (List.replicate wt.length true).all id = true by simp]
      exact k _ (s1.trans (s3.trans (Same.new hp)))
def spNeedWt (K : PySem.W.Frag) : Sp := fun vs H Q _ => ∃ (x : V) (n : Int) (ws : List (List Int)) (wp : Addr) (wt : List Int), vs = [x, .ref wp] ∧ Den K H (bookD n ws) x ∧ isBook (bookD n ws) = true ∧ SqT K H wp (wt.map V.int) ∧ WtOk ws wt ∧ ∀ H', Same H H' → Q .non H'
theorem scNeedWt : FnScope ["book", "weights"] ["book", "weights"] (defScope sNeedWt) := ⟨rfl, rfl, rfl, by decide +kernel, rfl, by decide +kernel, by decide +kernel⟩
theorem ok_needWt {f fA : Addr} {fd dA : FuncData} (G : Fn K mg "need_weights" sNeedWt ["book", "weights"] f fd) (GAW : Fn K mg "are_weights" sAreWt ["book", "thing"] fA dA) (OAW : FnOk P w K mg base CX0 5 fA dA ["book", "thing"] (spAreWt K)) : FnOk P w K mg base CX0 6 f fd ["book", "weights"] (spNeedWt K) := by
  refine G.fn.ok scNeedWt (fun vs H Q E h => ?_) (fun cdv A outer s H vs Q E hr h => ?_)
  · obtain ⟨x, n, ws, wp, wt, rfl, _⟩ := h
    rfl
  · obtain ⟨x, n, ws, wp, wt, rfl, hx, hbk, hw, hwt, k⟩ := h
    have r5 : Room 5 _ := hr
    refine ⟨_, (pss_one (ps_if (pt_not (pt_val (pe_fn GAW OAW r5 rfl (pa_cons (pv 0) (pa_cons (pv 1) pa_nil)))))
      pss_never
      pss_nil)), ?_⟩
    exact ⟨_, rfl, _, rfl, x, n, ws, wp, wt, rfl, hx, hbk, hw, hwt, fun H1 s1 => ⟨_, rfl, iteF (k _ s1)⟩⟩
def spWithin (K : PySem.W.Frag) : Sp := fun vs H Q _ => ∃ (p q : Addr) (l s : List Int), vs = [.ref p, .ref q] ∧ SqT K H p (l.map V.int) ∧ SqT K H q (s.map V.int) ∧ l.length ≤ 1000 ∧ ∀ H', Same H H' → Q (.bl (withinW s l)) H'
theorem scWithin : FnScope ["able", "some"] ["able", "some"] (defScope sWithin) := ⟨rfl, rfl, rfl, by decide +kernel, rfl, by decide +kernel, by decide +kernel⟩
theorem ok_within {f : Addr} {fd : FuncData} (G : Fn K mg "is_within" sWithin ["able", "some"] f fd) (B : Bl mg) : FnOk P w K mg base CX0 1 f fd ["able", "some"] (spWithin K) := by
  refine G.fn.ok scWithin (fun vs H Q E h => ?_) (fun cdv A outer s H vs Q E hr h => ?_)
  · obtain ⟨p, q, l, s, rfl, _⟩ := h
    rfl
  · obtain ⟨p, q, l, s', rfl, hp, hq, hl, k⟩ := h
    refine ⟨_, (pss_one (ps_ret (pe_callB (call_all rfl) rfl B.all b_all (pa_cons (pe_comp (own := ["hand"]) (fr := [1]) (frn := ["some"]) (compOk_of (defScope sWithin) ["able", "some"] rfl rfl (by decide +kernel)) rfl (pi_tup (pv 0))
        (fun _ _ _ _ => (pg_name (i := 0) (show (["hand", "some"] : List Str).Nodup by decide +kernel) rfl (Or.inl rfl))) (fun _ _ _ _ => pf_nil)
        (fun _ _ _ _ => (pe_cmpR (op_in_seqK (K := K) rfl) (pv 0) (pv 1) (by with_unfolding_all rfl)))) pa_nil)))), ?_⟩
    refine ⟨_, rfl, p, rfl, ⟨_, hp⟩, comp_fnT (K := K) (a := p) (xs := l.map V.int) (vs := (l.map fun h => decide (h ∈ s')).map V.bl) (fun σ => ∃ v, σ = [v, some (.ref q)]) (by rw [List.length_map]; exact hl) (by simp) hp ⟨none, rfl⟩ ?_ ?_⟩
    · rintro i u v σ H2 hu hv ⟨v0, rfl⟩ s2 Q' k'
      rw [List.getElem?_map] at hu hv
      obtain ⟨z, hz, rfl⟩ := Option.map_eq_some_iff.mp hu
      rw [List.getElem?_map, hz] at hv
      cases hv
      refine ⟨_, rfl, _, rfl, q, s'.map V.int, rfl, .inr (s2.seqT hq), rfl, flat_ints _, ?_⟩
      have e : inV (.int z) (s'.map V.int) = decide (z ∈ s') := in_memI z s'
      show Q' (.bl (inV (.int z) (s'.map V.int))) _ _
      rw [e]
      exact k' _ _ ⟨_, rfl⟩ (Same.refl _)
    · intro H3 s3 p2 hp2
      refine ⟨p2, _, rfl, SqL.of upd_same, ?_⟩
      rw [show (l.map fun h => decide (h ∈ s')).all id = withinW s' l by unfold withinW; rw [List.all_map]; rfl]
      exact k _ (s3.trans (Same.new hp2))
def spSets (K : PySem.W.Frag) : Sp := fun vs H Q _ => ∃ (l : Addr) (hs : List Int), vs = [.ref l] ∧ SqL K H l (hs.map V.int) ∧ hs.length ≤ 6 ∧ ∀ p xs H', Same H H' → H p = none → H' p = some (.lst xs) → DenAll K H' ((setsW hs).map workD) xs → Q (.ref p) H'
theorem scSets : FnScope ["hands", "sets", "hand"] ["hands"] (defScope sSets) := ⟨rfl, rfl, rfl, by decide +kernel, rfl, by decide +kernel, by decide +kernel⟩
theorem ok_sets {f : Addr} {fd : FuncData} (G : Fn K mg "sets_of" sSets ["hands"] f fd) (B : Bl mg) : FnOk P w K mg base CX0 1 f fd ["hands"] (spSets K) := by
  refine G.fn.ok scSets (fun vs H Q E h => ?_) (fun cdv A outer s H vs Q E hr h => ?_)
  · obtain ⟨l, hs, rfl, _⟩ := h
    rfl
  · obtain ⟨l, hs, rfl, hl, h6, k⟩ := h
    refine ⟨_, (pss_cons (ps_set (i := 1) scSets.nd rfl (Or.inl rfl) (pe_lst (pa_cons (pe_tup pa_nil) pa_nil)))
    (pss_cons (ps_for PassesOwn.never rfl (pi_list (pv 0)) (pg_name (i := 2) scSets.nd rfl (Or.inr rfl))
      (pss_one (ps_set (i := 1) scSets.nd rfl (Or.inl rfl) (pe_op op_cat (pv 1) (pe_comp (own := ["some"]) (fr := [2]) (frn := ["hand"]) (compOk_of (defScope sSets) ["hands", "sets", "hand"] rfl rfl (by decide +kernel)) rfl (pi_list (pv 1))
        (fun _ _ _ _ => (pg_name (i := 0) (show (["some", "hand"] : List Str).Nodup by decide +kernel) rfl (Or.inl rfl))) (fun _ _ _ _ => pf_nil)
        (fun _ _ _ _ => (pe_op (op_cat2K (K := K) rfl) (pv 0) (pe_tup (pa_cons (pv 1) pa_nil)))))))))
    (pss_one (ps_ret (pe_slice sl_list (pv 1) (po_some pe_int) po_none))))), ?_⟩
    refine ⟨size1 (Nat.zero_le _), fun p0 h0 => ⟨sz1 _, fun p1 h1 => ?_⟩⟩
    have s1 := (Same.new (o := .tup []) h0).trans (Same.new (o := .lst [.ref p0]) h1)
    have n1 : H p1 = none := (Same.new (o := .tup []) h0).free h1
    have e1 : upd (upd H p0 (.tup [])) p1 (.lst [.ref p0]) p1 = some (.lst [.ref p0]) := upd_same
    have d1 : DenAll K (upd (upd H p0 (.tup [])) p1 (.lst [.ref p0])) ((allSetsW (hs.take 0)).map workD) [.ref p0] := denAll_cons.mpr ⟨_, _, rfl, den_tints.mpr ⟨p0, rfl, (Same.new h1).seqT (SqT.of upd_same)⟩, denAll_nil.mpr rfl⟩
    generalize upd (upd H p0 (.tup [])) p1 (.lst [.ref p0]) = H1 at s1 e1 d1 ⊢
    refine ⟨_, rfl, l, rfl, ⟨_, s1.seqL hl⟩, for_list (K := K) (a := l) (xs := hs.map V.int) (fun i σ H2 => ∃ q xs v, σ = [some (.ref l), some (.ref q), v] ∧ Same H H2 ∧ H q = none ∧ H2 q = some (.lst xs) ∧ DenAll K H2 ((allSetsW (hs.take i)).map workD) xs) ⟨p1, _, none, rfl, s1, n1, e1, d1⟩ (fun i σ H2 _ ⟨_, _, _, _, s2, _⟩ => s2.seqL hl) ?_ ?_⟩
    · rintro i y σ H2 hy ⟨q, xs, v, rfl, s2, nq, hq, hd⟩
      rw [List.getElem?_map] at hy
      obtain ⟨h, hh, rfl⟩ := Option.map_eq_some_iff.mp hy
      have hi : i < hs.length := (List.getElem?_eq_some_iff.mp hh).1
      have hxl : xs.length = 2 ^ i := by
        rw [denAll_length hd, List.length_map, allSetsW_len, List.length_take, Nat.min_eq_left (by omega)]
      have hx32 : xs.length ≤ 32 := by rw [hxl]; exact pow2_le (n := 5) (by omega)
      refine ⟨_, rfl, _, rfl, q, rfl, ⟨_, SqL.of hq⟩, comp_list (K := K) (a := q) (xs := xs) (fun σ => ∃ v, σ = [v, some (.int h)]) (fun j ys H3 => Same H2 H3 ∧ DenAll K H3 (((allSetsW (hs.take i)).take j).map fun t => workD (t ++ [h])) ys) (size1 (by omega)) ⟨none, rfl⟩ ⟨Same.refl _, denAll_nil.mpr rfl⟩ ?_ (fun j ys H3 ⟨s3, _⟩ => s3.seqL (SqL.of hq)) ?_ ?_⟩
      · rintro j ys H3 ⟨_, hd3⟩
        rw [denAll_length hd3, List.length_map, List.length_take]
        exact Nat.min_le_left _ _
      · rintro j ys σ x H3 hx ⟨v0, rfl⟩ ⟨s3, hd3⟩ hz
        obtain ⟨d, hd1, hd2⟩ := denAll_at (s3.denAll _ _ hd) hx
        rw [List.getElem?_map] at hd1
        obtain ⟨t, ht, rfl⟩ := Option.map_eq_some_iff.mp hd1
        obtain ⟨a, rfl, ha⟩ := den_tints.mp hd2
        have ht5 : t.length ≤ i := by
          have := allSetsW_short _ t (List.mem_of_getElem? ht)
          rw [List.length_take] at this
          omega
        refine ⟨_, rfl, _, rfl, sz1 _, fun pt hpt => ⟨a, pt, _, _, rfl, rfl, (Same.new hpt).seqT ha, SqT.of upd_same, size1 (by rw [List.length_map]; show _ + 1 ≤ _; omega), fun pc H4 s4 hpc => ?_⟩⟩
        have s34 := (Same.new (o := .tup [.int h]) hpt).trans s4
        refine ⟨hz, ⟨_, rfl⟩, s3.trans s34, ?_⟩
        rw [List.take_add_one, ht, List.map_append]
        refine denAll_append (s34.denAll _ _ hd3) (denAll_cons.mpr ⟨_, _, rfl, den_tints.mpr ⟨pc, rfl, ?_⟩, denAll_nil.mpr rfl⟩)
        rw [List.map_append]
        exact hpc
      · rintro ys H3 ⟨s3, hd3⟩ pn hpn
        have hyl : ys.length ≤ 32 := by
          rw [denAll_length hd3, List.length_map, List.length_take]
          omega
        refine ⟨q, pn, xs, ys, rfl, rfl, (s3.trans (Same.new hpn)) _ _ hq, upd_same, size1 (by omega), fun pr hpr => ?_⟩
        have s35 := s3.trans ((Same.new (o := .lst ys) hpn).trans (Same.new (o := .lst (xs ++ ys)) hpr))
        refine ⟨pr, xs ++ ys, _, rfl, s2.trans s35, (s2.trans (s3.trans (Same.new hpn))).free hpr, upd_same, ?_⟩
        rw [List.take_add_one, hh, show (some h).toList = [h] from rfl, allSetsW_snoc, List.map_append, List.map_map]
        refine denAll_append (s35.denAll _ _ hd) ?_
        have e : xs.length = (allSetsW (hs.take i)).length := by rw [denAll_length hd, List.length_map]
        rw [e, List.take_length] at hd3
        exact ((Same.new hpn).trans (Same.new hpr)).denAll _ _ hd3
    · rintro σ H2 ⟨q, xs, v, rfl, s2, nq, hq, hd⟩
      refine ⟨_, rfl, _, rfl, q, xs, rfl, SqL.of hq, fun pr hpr => ?_⟩
      have e : cutV xs (some 1) none = xs.drop 1 := cutV_from xs 1
      rw [e]
      rw [List.length_map, List.take_length, allSetsW_cons, List.map_cons] at hd
      obtain ⟨x, r, rfl, _, hr2⟩ := denAll_cons.mp hd
      exact k pr _ _ (s2.trans (Same.new hpr)) (s2.free hpr) upd_same ((Same.new hpr).denAll _ _ hr2)
end
end Ab
set_option Elab.async false
set_option linter.all false
set_option maxRecDepth 100000
namespace L2
open PySem
theorem for_zipM {K : PySem.W.Frag} {k1 k2 : Sk} {a b : Addr} {xs ys : List V} {g : TG} {tb : TS} {D : Ends} {σ : St} {H : Hp} (Pv : Nat → St → Hp → Prop) (h0 : Pv 0 σ H) (hl : ∀ i σ H, Pv i σ H → SqK k1 K H a xs ∧ SqK k2 K H b ys)
    (hs : ∀ i x y p σ H, xs[i]? = some x → ys[i]? = some y → Pv i σ H → H p = none → g (.ref p) σ (upd H p (.tup [x, y])) fun σ2 H2 => tb { D with nx := Pv (i + 1), ct := Pv (i + 1), bk := D.nx } σ2 H2) (hd : ∀ σ H, Pv (min xs.length ys.length) σ H → D.nx σ H) :
    ∃ W : Nat → Nat → St → Hp → Prop, (∃ m, W 0 m σ H) ∧ ∀ i m σ H, W i m σ H →
      ((Itz K k1 k2 a b).stop i H ∧ D.nx σ H) ∨ ((Itz K k1 k2 a b).go i H ∧ ∃ N : St → Hp → Prop, (∀ σ' H', N σ' H' → ∃ m', m' < m ∧ W (i + 1) m' σ' H') ∧ ∀ x H', (Itz K k1 k2 a b).yld i H x H' → g x σ H' fun σ2 H2 => tb { D with nx := N, ct := N, bk := D.nx } σ2 H2) := by
  refine ⟨fun i m σ H => m = min xs.length ys.length - i ∧ i ≤ min xs.length ys.length ∧ Pv i σ H, ⟨_, rfl, Nat.zero_le _, h0⟩, ?_⟩
  rintro i m σ H ⟨rfl, hi, p⟩
  obtain ⟨q1, q2⟩ := hl i σ H p
  by_cases hlt : i < min xs.length ys.length
  · refine .inr ⟨⟨xs, ys, xs[i]'(by omega), ys[i]'(by omega), q1, q2, List.getElem?_eq_getElem (by omega), List.getElem?_eq_getElem (by omega)⟩, Pv (i + 1), fun σ' H' p' => ⟨min xs.length ys.length - (i + 1), by omega, rfl, hlt, p'⟩, fun x H' y => ?_⟩
    obtain ⟨z, hz, rfl, hy⟩ := y
    obtain ⟨x, y, h1, h2, rfl⟩ := hy xs ys q1 q2
    exact hs i x y z σ _ h1 h2 p hz
  · have e : i = min xs.length ys.length := by omega
    subst e
    exact .inl ⟨⟨xs, ys, q1, q2, rfl⟩, hd σ H p⟩
end L2
namespace Ab
open PySem L2
theorem dlW_take {h : Int} : ∀ (b wt : List Int) (i : Nat) (x w : Int), b[i]? = some x → wt[i]? = some w → dlW h (b.take (i + 1)) wt = dlW h (b.take i) wt + (if x = h then w else 0)
  | [], _, _, _, _, h, _ => by cases h
  | _ :: _, [], _, _, _, _, h => by cases h
  | y :: b, v :: wt, 0, x, w, h1, h2 => by
    have e1 : y = x := Option.some.inj h1
    have e2 : v = w := Option.some.inj h2
    subst e1 e2
    show (if y = h then v else 0) + dlW h [] wt = 0 + (if y = h then v else 0)
    rw [dlW_nil]; omega
  | y :: b, v :: wt, i + 1, x, w, h1, h2 => by
    show (if y = h then v else 0) + dlW h (b.take (i + 1)) wt = (if y = h then v else 0) + dlW h (b.take i) wt + (if x = h then w else 0)
    rw [dlW_take b wt i x w h1 h2]
    omega
theorem dlW_full {h : Int} : ∀ (b wt : List Int) (i : Nat), min b.length wt.length ≤ i → dlW h (b.take i) wt = dlW h b wt
  | [], wt, i, _ => by rw [List.take_nil]
  | y :: b, [], i, _ => by cases i <;> rfl
  | y :: b, v :: wt, 0, hi => by simp at hi
  | y :: b, v :: wt, i + 1, hi => by
    show (if y = h then v else 0) + dlW h (b.take i) wt = (if y = h then v else 0) + dlW h b wt
    rw [dlW_full b wt i (by simp at hi; omega)]
theorem ixN_in {n : Nat} {x : Int} (h0 : 0 ≤ x) (h1 : x < n) : ixN n x = some x.toNat := by
  unfold ixN
  rw [if_pos (by omega), if_pos (by omega)]
theorem Good.range {K : PySem.W.Frag} {H : Hp} {x y : V} {n : Int} {ws : List (List Int)} {hs : List Int} (g : Good K H x y n ws hs) : ∀ h ∈ hs, 0 ≤ h ∧ h < n := fun h hh => by
  obtain ⟨i, e⟩ := List.mem_iff_getElem?.mp hh
  obtain ⟨_, _, _, hw⟩ := book_parts g.2.1
  obtain ⟨hl, hd⟩ := deal_parts g.2.2.2
  have hi : i < ws.length := by rw [← hl]; exact (List.getElem?_eq_some_iff.mp e).1
  have hm := hd i h ws[i] e (List.getElem?_eq_getElem hi)
  exact (work_parts (hw _ (List.getElem_mem hi))).2.1 h hm
theorem denAll_ix {K : PySem.W.Frag} {H : Hp} : ∀ {ds : List PyData} {zs : List V}, zs.length = ds.length → (∀ (i : Nat) d z, ds[i]? = some d → zs[i]? = some z → Den K H d z) → DenAll K H ds zs
  | [], [], _, _ => denAll_nil.mpr rfl
  | [], _ :: _, h, _ => by cases h
  | _ :: _, [], h, _ => by cases h
  | d :: ds, z :: zs, hl, h => denAll_cons.mpr ⟨z, zs, rfl, h 0 d z rfl rfl, denAll_ix (by simpa using hl) fun i d' z' h1 h2 => h (i + 1) d' z' h1 h2⟩
def pairD (s : List Int) (g : Int) : PyData := .tuple [workD s, .int g]
def rowD (n : Int) (ws : List (List Int)) (wt : List Int) (k : Nat) : PyData := .list ((setsW (upto n.toNat)).map fun s => pairD s (bhW s (ws.drop k) (wt.drop k)))
def behD (n : Int) (ws : List (List Int)) (wt : List Int) : PyData := .list ((List.range (ws.length + 1)).map (rowD n ws wt))
theorem bhW_sum (s : List Int) : ∀ (ws : List (List Int)) (wt : List Int), sumTo (((ws.zip wt).filter fun p => withinW s p.1).map (·.2)) = bhW s ws wt
  | [], wt => by rw [bhW_nil]; rfl
  | l :: ws, [] => rfl
  | l :: ws, w :: wt => by
    rw [List.zip_cons_cons, List.filter_cons]
    show _ = (if withinW s l = true then w else 0) + bhW s ws wt
    split
    · rw [List.map_cons, ← bhW_sum s ws wt]
      rfl
    · rw [← bhW_sum s ws wt]
      omega
theorem den_pair {K : PySem.W.Frag} {H : Hp} {s : List Int} {g : Int} {v : V} (h : Den K H (pairD s g) v) : ∃ p q, v = .ref p ∧ SqT K H p [.ref q, .int g] ∧ SqT K H q (s.map V.int) := by
  obtain ⟨p, xs, rfl, hp, hx⟩ := den_tuple.mp h
  obtain ⟨x1, r1, rfl, d1, hr1⟩ := denAll_cons.mp hx
  obtain ⟨x2, r2, rfl, d2, hr2⟩ := denAll_cons.mp hr1
  rw [denAll_nil.mp hr2] at hp
  obtain ⟨q, rfl, hq⟩ := den_tints.mp d1
  rw [den_int.mp d2] at hp
  exact ⟨p, q, rfl, hp, hq⟩
theorem den_pairI {K : PySem.W.Frag} {H : Hp} {s : List Int} {g : Int} {p q : Addr} (h1 : SqT K H p [.ref q, .int g]) (h2 : SqT K H q (s.map V.int)) : Den K H (pairD s g) (.ref p) :=
  den_tuple.mpr ⟨p, _, rfl, h1, denAll_cons.mpr ⟨_, _, rfl, den_tints.mpr ⟨q, rfl, h2⟩, denAll_cons.mpr ⟨_, _, rfl, den_int.mpr rfl, denAll_nil.mpr rfl⟩⟩⟩
theorem noList_pair (s : List Int) (g : Int) : noList (pairD s g) = true := by
  unfold pairD noList noLists
  rw [noList_work]
  unfold noLists noList noLists
  rfl
theorem drop_zipI : ∀ (i : Nat) (a : List (List Int)) (b : List Int), (a.zip b).drop i = (a.drop i).zip (b.drop i)
  | 0, _, _ => rfl
  | i + 1, [], b => by simp
  | i + 1, _ :: _, [] => by simp
  | i + 1, x :: a, y :: b => by rw [List.zip_cons_cons, List.drop_succ_cons, List.drop_succ_cons, List.drop_succ_cons]; exact drop_zipI i a b
theorem b_any : bootBuiltins "any" = some (.builtin "any") := by decide +kernel
theorem pi_tupK {X : Cx} {K : PySem.W.Frag} {tg l : Expr} {tl : TE} (hK : X.K = K) (hl : PE X l tl) : PI X tg l (iTup K tl) := by subst hK; exact pi_tup hl
theorem sameWr {H H' : Hp} {a : Addr} {u : HO} (e : Same H H') (h : H a = none) : Same H (upd H' a u) := fun b o q => by
  rw [upd_ne (fun z => by rw [z, h] at q; cases q)]
  exact e b o q
theorem call_sumK {X : Cx} {K : PySem.W.Frag} (hK : X.K = K) (hc : X.calm = true) : CallR X (.builtin "sum") (fun xs H Q => ∃ (p : Addr) (ns : List Int), xs = [.ref p] ∧ SqL K H p (ns.map V.int) ∧ (∀ n ∈ ns, 0 ≤ n ∧ n < 1000000) ∧ ns.length ≤ 1000000 ∧ Q (.int (sumTo ns)) H) := by subst hK; exact call_sum hc
section
variable {K : PySem.W.Frag} {S : List Addr} {H H' H0 : Hp}
mutual
theorem Fx.den (f : Fx S H) : ∀ (d : PyData) (v : V), noList d = true → Den K H d v → Den K (Vw S H) d v
  | .none, v, _, h => by unfold Den at h ⊢; exact h
  | .bool b, v, _, h => by unfold Den at h ⊢; exact h
  | .int i, v, _, h => by unfold Den at h ⊢; exact h
  | .str x, v, _, h => by unfold Den at h ⊢; exact h
  | .list ds, v, n, h => by unfold noList at n; cases n
  | .tuple ds, v, n, h => by unfold noList at n; unfold Den at h ⊢; obtain ⟨a, xs, h1, h2, h3⟩ := h; exact ⟨a, xs, h1, f.seqT h2, Fx.denAll f ds xs n h3⟩
  | .dict kvs, v, n, h => by unfold noList at n; cases n
theorem Fx.denAll (f : Fx S H) : ∀ (ds : List PyData) (xs : List V), noLists ds = true → DenAll K H ds xs → DenAll K (Vw S H) ds xs
  | [], xs, _, h => by unfold DenAll at h ⊢; exact h
  | d :: ds, xs, n, h => by
    unfold noLists at n; rw [Bool.and_eq_true] at n
    unfold DenAll at h ⊢; obtain ⟨x, r, h1, h2, h3⟩ := h; exact ⟨x, r, h1, Fx.den f d x n.1 h2, Fx.denAll f ds r n.2 h3⟩
end
end
def scOutB : Scope := match (defBody sBehind).getD 3 (.Pass ⟨0, 0, 0, 0⟩) with
  | .For _ _ [_, .Expr (.Call _ [.ListComp _ _ sc _] _ _) _] _ _ => sc
  | _ => { kind := .function, names := [], isGenerator := false, isCoroutine := false }
def scOutS : Scope := match (defBody sShows).getD 0 (.Pass ⟨0, 0, 0, 0⟩) with
  | .Return (some (.Call _ [.ListComp _ _ sc _] _ _)) _ => sc
  | _ => { kind := .function, names := [], isGenerator := false, isCoroutine := false }
theorem dealtW_len (n : Int) (wt b : List Int) : (dealtW n wt b).length = n.toNat := by unfold dealtW; rw [List.length_map, upto_length]
theorem dealtW_at {n : Int} {wt b : List Int} {h : Int} (h0 : 0 ≤ h) (h1 : h < n) : (dealtW n wt b)[h.toNat]? = some (dlW h b wt) := by
  unfold dealtW
  rw [List.getElem?_map, upto_get (by omega)]
  show some (dlW (h.toNat : Int) b wt) = _
  rw [show ((h.toNat : Nat) : Int) = h by omega]
theorem dealtW_set {n : Int} {wt b : List Int} {i : Nat} {x w : Int} (h0 : 0 ≤ x) (h1 : x < n) (hb : b[i]? = some x) (hw : wt[i]? = some w) : (dealtW n wt (b.take i)).set x.toNat (dlW x (b.take i) wt + w) = dealtW n wt (b.take (i + 1)) := by
  unfold dealtW
  refine List.ext_getElem? fun j => ?_
  rw [List.getElem?_set]
  by_cases hj : j < n.toNat
  · rw [List.getElem?_map, List.getElem?_map, upto_get hj]
    by_cases e : x.toNat = j
    · rw [if_pos e, if_pos (by rw [List.length_map, upto_length]; omega)]
      show _ = some (dlW (j : Int) (b.take (i + 1)) wt)
      have ex : (j : Int) = x := by omega
      rw [ex, dlW_take b wt i x w hb hw, if_pos rfl]
    · rw [if_neg e]
      show some (dlW (j : Int) (b.take i) wt) = some (dlW (j : Int) (b.take (i + 1)) wt)
      rw [dlW_take b wt i x w hb hw, if_neg (by omega)]
      congr 1; omega
  · rw [List.getElem?_eq_none (l := List.map _ _) (by rw [List.length_map, upto_length]; omega), List.getElem?_eq_none (l := List.map _ _) (by rw [List.length_map, upto_length]; omega)]
    split
    · split
      · rename_i h2; rw [List.length_map, upto_length] at h2; omega
      · rfl
    · rfl
section
variable {P : Program} {w : World} {K : PySem.W.Frag} {mg : Str → Option Value} {base : Heap}
variable {fW fH fK fB fNB : Addr} {dW dH dK dB dNB : FuncData}
def spWDealt (K : PySem.W.Frag) : Sp := fun vs H Q _ => ∃ (n : Int) (wp bp : Addr) (wt b : List Int), vs = [.int n, .ref wp, .ref bp] ∧ SqT K H wp (wt.map V.int) ∧ SqT K H bp (b.map V.int) ∧ 1 ≤ n ∧ n ≤ 6 ∧ (∀ x ∈ b, 0 ≤ x ∧ x < n) ∧ ∀ p H', Same H H' → H' p = some (.tup ((dealtW n wt b).map V.int)) → Q (.ref p) H'
theorem scWDealt : FnScope ["hands", "weights", "some", "told", "hand", "weight"] ["hands", "weights", "some"] (defScope sWDealt) := ⟨rfl, rfl, rfl, by decide +kernel, rfl, by decide +kernel, by decide +kernel⟩
theorem ok_wdealt {f : Addr} {fd : FuncData} (G : Fn K mg "weights_dealt" sWDealt ["hands", "weights", "some"] f fd) (B : Bl mg) : FnOk P w K mg base CX0 1 f fd ["hands", "weights", "some"] (spWDealt K) := by
  refine G.fn.ok scWDealt (fun vs H Q E h => ?_) (fun cdv A outer s H vs Q E hr h => ?_)
  · obtain ⟨n, wp, bp, wt, b, rfl, _⟩ := h
    rfl
  · obtain ⟨n, wp, bp, wt, b, rfl, hw, hb, hn1, hn6, hin, k⟩ := h
    refine ⟨_, (pss_cons (ps_set (i := 3) scWDealt.nd rfl (Or.inl rfl) (pe_op op_rep (pe_lst (pa_cons pe_int pa_nil)) (pv 0)))
    (pss_cons (ps_for PassesOwn.never rfl (pi_zip .t .t rfl B.zip (pa_cons (pv 2) (pa_cons (pv 1) pa_nil))) (pg_tup rfl (pgs_cons (pg_name (i := 4) scWDealt.nd rfl (Or.inl rfl)) (pgs_cons (pg_name (i := 5) scWDealt.nd rfl (Or.inl rfl)) pgs_nil)))
      (pss_one (ps_augS (pv 3) (pv 4) get_list (pv 5) ip_add set_list)))
    (pss_one (ps_ret (pe_callTy call_tuple_of rfl B.tuple b_tuple (pa_cons (pv 3) pa_nil)))))), ?_⟩
    refine ⟨sz1 _, fun p0 h0 => ⟨_, rfl, p0, n, _, rfl, rfl, upd_same, by omega, by omega, size1 (by show 1 * n.toNat ≤ _; omega), fun tl htl => ?_⟩⟩
    have s1 := (Same.new (o := .lst [.int 0]) h0).trans (Same.new (o := .lst (List.replicate n.toNat [V.int 0]).flatten) htl)
    have ntl : H tl = none := (Same.new (o := .lst [.int 0]) h0).free htl
    have e1 : upd (upd H p0 (.lst [.int 0])) tl (.lst (List.replicate n.toNat [V.int 0]).flatten) tl = some (.lst ((dealtW n wt (b.take 0)).map V.int)) := by
      rw [upd_same]
      congr 2
      unfold dealtW
      rw [List.map_map]
      refine List.ext_getElem? fun j => ?_
      have el : (List.replicate n.toNat [V.int 0]).flatten = List.replicate n.toNat (V.int 0) := by
        have : ∀ m : Nat, (List.replicate m [V.int 0]).flatten = List.replicate m (V.int 0) := fun m => by
          induction m with
          | zero => rfl
          | succ m ih => rw [List.replicate_succ, List.flatten_cons, ih]; rfl
        exact this _
      rw [el, List.getElem?_replicate]
      by_cases hj : j < n.toNat
      · rw [if_pos hj, List.getElem?_map, upto_get hj]
        show _ = some (V.int (dlW _ [] wt))
        rw [dlW_nil]
      · rw [if_neg hj, List.getElem?_eq_none (by rw [List.length_map, upto_length]; omega)]
    generalize upd (upd H p0 (.lst [.int 0])) tl (.lst (List.replicate n.toNat [V.int 0]).flatten) = H1 at s1 e1 ⊢
    dsimp only [gName]
    refine ⟨_, rfl, _, rfl, bp, wp, _, _, rfl, s1.seqT hb, s1.seqT hw, for_zipM (K := K) (k1 := .t) (k2 := .t) (a := bp) (b := wp) (xs := b.map V.int) (ys := wt.map V.int) (fun i σ H2 => (∃ v4 v5, σ = [some (.int n), some (.ref wp), some (.ref bp), some (.ref tl), v4, v5]) ∧ Same H H2 ∧ H2 tl = some (.lst ((dealtW n wt (b.take i)).map V.int))) ⟨⟨_, _, rfl⟩, s1, e1⟩ (fun i σ H2 ⟨_, s2, _⟩ => ⟨s2.seqT hb, s2.seqT hw⟩) ?_ ?_⟩
    · rintro i u v t σ H2 hu hv ⟨⟨v4, v5, rfl⟩, s2, e2⟩ ht
      rw [List.getElem?_map] at hu hv
      obtain ⟨x, hx, rfl⟩ := Option.map_eq_some_iff.mp hu
      obtain ⟨y, hy, rfl⟩ := Option.map_eq_some_iff.mp hv
      have hxn := hin x (List.mem_of_getElem? hx)
      have s3 := Same.new (o := .tup [.int x, .int y]) ht
      have e3 := s3 _ _ e2
      have t3 : upd H2 t (.tup [.int x, .int y]) t = some (.tup [.int x, .int y]) := upd_same
      generalize upd H2 t (.tup [.int x, .int y]) = H3 at s3 e3 t3 ⊢
      have ntl3 : H tl = none := ntl
      refine ⟨t, _, rfl, SqT.of t3, rfl, _, _, rfl, _, _, rfl, rfl, ?_⟩
      refine ⟨_, rfl, _, rfl, tl, _, x, .int (dlW x (b.take i) wt), rfl, rfl, SqL.of e3, hxn.1, by rw [List.getElem?_map, dealtW_at hxn.1 hxn.2]; rfl, _, rfl, _, _, rfl, rfl, ?_⟩
      refine ⟨tl, _, x, x.toNat, rfl, rfl, e3, ixN_in hxn.1 (by rw [List.length_map, dealtW_len]; omega), ⟨_, _, rfl⟩, fun b o q => ?_, ?_⟩
      · rw [upd_ne (fun z => by rw [z, ntl] at q; cases q)]
        exact s3 _ _ (s2 _ _ q)
      · rw [upd_same, ← dealtW_set hxn.1 hxn.2 hx hy, List.map_set]
    · rintro σ H2 ⟨⟨v4, v5, rfl⟩, s2, e2⟩
      refine ⟨_, rfl, tl, _, rfl, .inl ⟨SqL.of e2, fun l hl => k l _ (s2.trans (Same.new hl)) ?_⟩⟩
      have e : dealtW n wt (b.take (min (b.map V.int).length (wt.map V.int).length)) = dealtW n wt b := by
        unfold dealtW
        exact List.map_congr_left fun h _ => dlW_full b wt _ (by rw [List.length_map, List.length_map]; exact Nat.le_refl _)
      rw [upd_same, e]
def spNeedF (K : PySem.W.Frag) : Sp := fun vs H Q _ => ∃ (x : V) (n : Int) (ws : List (List Int)) (wp : Addr) (wt : List Int), vs = [x, .ref wp] ∧ Den K H (bookD n ws) x ∧ isBook (bookD n ws) = true ∧ SqT K H wp (wt.map V.int) ∧ WtOk ws wt ∧ n ≤ 4 ∧ ws.length ≤ 7 ∧ ∀ H', Same H H' → Q .non H'
theorem scNeedF : FnScope ["book", "weights"] ["book", "weights"] (defScope sNeedF) := ⟨rfl, rfl, rfl, by decide +kernel, rfl, by decide +kernel, by decide +kernel⟩
theorem ok_needF {f fN : Addr} {fd dN : FuncData} (G : Fn K mg "need_few" sNeedF ["book", "weights"] f fd) (B : Bl mg) (GNW : Fn K mg "need_weights" sNeedWt ["book", "weights"] fN dN) (ONW : FnOk P w K mg base CX0 6 fN dN ["book", "weights"] (spNeedWt K)) : FnOk P w K mg base CX0 7 f fd ["book", "weights"] (spNeedF K) := by
  obtain ⟨tfh, hfh⟩ := B.fh
  obtain ⟨tfw, hfw⟩ := B.fw
  refine G.fn.ok scNeedF (fun vs H Q E h => ?_) (fun cdv A outer s H vs Q E hr h => ?_)
  · obtain ⟨x, n, ws, wp, wt, rfl, _⟩ := h
    rfl
  · obtain ⟨x, n, ws, wp, wt, rfl, hx, hbk, hw, hwt, h4, h7, k⟩ := h
    have r6 : Room 6 _ := hr
    refine ⟨_, (pss_cons (ps_expr (pe_fn GNW ONW r6 rfl (pa_cons (pv 0) (pa_cons (pv 1) pa_nil))))
    (pss_one (ps_if (PW.pt (pw_or (pt_cmpR op_gt (pe_ix ix_tup (pv 0) pe_int (fun _ _ => rfl)) (pe_glob (v := .int 4) rfl hfh ⟨tfh, rfl⟩) (nomark _)) (pw_or1 (pt_cmpR op_gt (pe_callB call_len_seq rfl B.len b_len (pa_cons (pe_ix ix_tup (pv 0) pe_int (fun _ _ => rfl)) pa_nil)) (pe_glob (v := .int 7) rfl hfw ⟨tfw, rfl⟩) (nomark _)))))
      pss_never
      pss_nil))), ?_⟩
    refine ⟨_, rfl, _, rfl, x, n, ws, wp, wt, rfl, hx, hbk, hw, hwt, fun H1 s1 => ?_⟩
    obtain ⟨c, b, ys, e, hc, hb1, hys1⟩ := den_book (s1.den _ _ hx)
    cases e
    have hly := denAll_length hys1
    rw [List.length_map] at hly
    refine ⟨_, rfl, c, _, 0, .int n, rfl, rfl, hc, rfl, _, _, rfl, rfl, _, rfl, ?_⟩
    refine iteFx (decide_eq_false (show ¬ (4 : Int) < n by omega)) ?_
    refine ⟨_, rfl, c, _, 1, .ref b, rfl, rfl, hc, rfl, b, ys, rfl, .inr hb1, _, _, rfl, rfl, _, rfl, ?_⟩
    refine iteFx (decide_eq_false (show ¬ (7 : Int) < ys.length by omega)) ?_
    exact k _ s1
def spBehind (K : PySem.W.Frag) : Sp := fun vs H Q _ => ∃ (x : V) (n : Int) (ws : List (List Int)) (wp : Addr) (wt : List Int), vs = [x, .ref wp] ∧ Den K H (bookD n ws) x ∧ isBook (bookD n ws) = true ∧ SqT K H wp (wt.map V.int) ∧ WtOk ws wt ∧ ∀ p H', Same H H' → Den K H' (behD n ws wt) (.ref p) → Q (.ref p) H'
theorem scBehind : FnScope ["book", "weights", "rows", "sets", "told", "many", "behind"] ["book", "weights"] (defScope sBehind) := ⟨rfl, rfl, rfl, by decide +kernel, rfl, by decide +kernel, by decide +kernel⟩
set_option maxHeartbeats 2000000 in
theorem ok_behind {f fS fI : Addr} {fd dS dI : FuncData} (G : Fn K mg "weights_behind" sBehind ["book", "weights"] f fd) (B : Bl mg) (GSt : Fn K mg "sets_of" sSets ["hands"] fS dS) (OSt : FnOk P w K mg base CX0 1 fS dS ["hands"] (spSets K)) (GWi : Fn K mg "is_within" sWithin ["able", "some"] fI dI) (OWi : FnOk P w K mg base CX0 1 fI dI ["able", "some"] (spWithin K)) : FnOk P w K mg base CX0 2 f fd ["book", "weights"] (spBehind K) := by
  refine G.fn.ok scBehind (fun vs H Q E h => ?_) (fun cdv A outer s H vs Q E hr h => ?_)
  · obtain ⟨x, n, ws, wp, wt, rfl, _⟩ := h
    rfl
  · obtain ⟨x, n, ws, wp, wt, rfl, hx, hbk, hw, hwt, k⟩ := h
    have r1 : Room 1 _ := hr
    refine ⟨_, (pss_cons (ps_set (i := 2) scBehind.nd rfl (Or.inl rfl) (pe_listzip .t .t rfl rfl B.list rfl B.zip (pa_cons (pe_ix ix_tup (pv 0) pe_int (fun _ _ => rfl)) (pa_cons (pv 1) pa_nil))))
    (pss_cons (ps_set (i := 3) scBehind.nd rfl (Or.inl rfl) (pe_fn GSt OSt r1 rfl (pa_cons (pe_callTy (call_list_rng rfl) rfl B.list b_list (pa_cons (pe_callTy call_range1 rfl B.range b_range (pa_cons (pe_ix ix_tup (pv 0) pe_int (fun _ _ => rfl)) pa_nil)) pa_nil)) pa_nil)))
    (pss_cons (ps_set (i := 4) scBehind.nd rfl (Or.inl rfl) (pe_lst pa_nil))
    (pss_cons (ps_for PassesOwn.never rfl (pi_range1 rfl B.range (pa_cons (pe_op op_add (pe_callB call_len_seq rfl B.len b_len (pa_cons (pv 2) pa_nil)) pe_int) pa_nil)) (pg_name (i := 5) scBehind.nd rfl (Or.inl rfl))
      (pss_cons (ps_set (i := 6) scBehind.nd rfl (Or.inr rfl) (pe_slice sl_list (pv 2) (po_some (pv 5)) po_none))
    (pss_one (ps_expr (pe_bm PySem.F.plainAttrs_list PySem.F.slot_list_append PySem.F.type_list_append mt_append (pv 4) (pa_cons (pe_comp1 (z0 := "some") (own := ["some"]) (fr := [6]) (frn := ["behind"]) (compOk1_of (defScope sBehind) ["book", "weights", "rows", "sets", "told", "many", "behind"] rfl rfl (fun _ _ => rfl) (fun _ => rfl) (by decide +kernel)) rfl (pi_list (pv 3))
        (fun _ _ _ _ => (pg_name (i := 0) (show (["some", "behind"] : List Str).Nodup by decide +kernel) rfl (Or.inr rfl))) (fun _ _ _ _ => pf_nil)
        (fun _ _ _ _ => (pe_tup (pa_cons (pv 0) (pa_cons (pe_callB (call_sumK (K := K) rfl rfl) rfl B.sum b_sum (pa_cons (pe_comp (own := ["able", "heft"]) (fr := [0]) (frn := ["some"]) (compOk_of (relS scOutB (defScope sBehind)) ["some", "behind"] rfl rfl (by decide +kernel)) rfl (pi_listK (K := K) rfl (pv 1))
        (fun _ _ _ _ => (pg_tupK (K := K) (n := 2) rfl rfl (pgs_cons (pg_name (i := 0) (show (["able", "heft", "some"] : List Str).Nodup by decide +kernel) rfl (Or.inl rfl)) (pgs_cons (pg_name (i := 1) (show (["able", "heft", "some"] : List Str).Nodup by decide +kernel) rfl (Or.inl rfl)) pgs_nil)))) (fun _ _ _ _ => pf_one (pt_val (pe_fn GWi OWi r1 rfl (pa_cons (pv 0) (pa_cons (pv 2) pa_nil)))))
        (fun _ _ _ _ => (pv 1))) pa_nil)) pa_nil))))) pa_nil))))))
    (pss_one (ps_ret (pv 4))))))), ?_⟩
    obtain ⟨c, b, ys, e, hc, hb1, hys1⟩ := den_book hx
    cases e
    have hly := denAll_length hys1
    rw [List.length_map] at hly
    obtain ⟨hn1, hn6, h12, hwk⟩ := book_parts hbk
    have hwl := hwt.1
    refine ⟨_, rfl, c, _, 1, .ref b, rfl, rfl, hc, rfl, _, rfl, b, wp, ys, wt.map V.int, rfl, hb1, hw, size1 (by rw [List.length_map]; omega), fun rp zs H2 s2 nrp hrp hzl hprs => ?_⟩
    dsimp only [gName]
    refine ⟨_, rfl, c, _, 0, .int n, rfl, rfl, s2.seqT hc, rfl, n, rfl, fun p3 h3 => ?_⟩
    refine ⟨p3, n.toNat, rfl, by rw [upd_same, show ((n.toNat : Nat) : Int) = n by omega], by omega, fun p4 h4 => ?_⟩
    refine ⟨p4, upto n.toNat, rfl, SqL.of upd_same, by rw [upto_length]; omega, fun sp xs H5 s5 nsp hsp hd5 => ?_⟩
    have s25 := (Same.new (o := .rng 0 n) h3).trans ((Same.new (o := .lst ((upto n.toNat).map V.int)) h4).trans s5)
    have hd2 : DenAll K H2 ((ws.zip wt).map fun p => pairD p.1 p.2) zs := by
      refine denAll_ix (by rw [hzl, List.length_map, List.length_map, List.length_zip, hly]) fun i d z h1 h2 => ?_
      obtain ⟨q, u, v, rfl, hu, hv, hq⟩ := hprs i z h2
      rw [List.getElem?_map] at h1
      obtain ⟨⟨l, w9⟩, hlw, rfl⟩ := Option.map_eq_some_iff.mp h1
      obtain ⟨hl1, hw1⟩ := List.getElem?_zip_eq_some.mp hlw
      obtain ⟨du, hdu1, hdu2⟩ := denAll_at (s2.denAll _ _ hys1) hu
      rw [List.getElem?_map, hl1] at hdu1
      cases hdu1
      obtain ⟨a, rfl, ha⟩ := den_tints.mp hdu2
      rw [List.getElem?_map, hw1] at hv
      cases hv
      exact den_pairI (SqT.of hq) ha
    have hd25 := s25.denAll _ _ hd2
    have hrp5 := s25 _ _ hrp
    have s05 := s2.trans s25
    generalize hH6 : H5 = H6 at *
    refine ⟨size1 (Nat.zero_le _), fun tl htl => ?_⟩
    have hzl2 : zs.length = ws.length := by rw [hzl, List.length_map, hly]; omega
    have s7 := Same.new (o := .lst []) htl
    have e7 : upd H6 tl (.lst []) tl = some (.lst []) := upd_same
    generalize upd H6 tl (.lst []) = H7 at s7 e7 ⊢
    have hsl : (setsW (upto n.toNat)).length ≤ 63 := by
      have := setsW_len (upto n.toNat)
      have h2 := pow2_le (m := (upto n.toNat).length) (n := 6) (by rw [upto_length]; omega)
      omega
    refine ⟨_, rfl, rp, zs, rfl, .inl (s7.seqL (SqL.of hrp5)), _, _, rfl, rfl, zs.length + 1, rfl, by omega, by omega, for_range (lo := 0) (n := zs.length + 1) (fun i σ H8 => ∃ us v5 v6, σ = [some (.ref c), some (.ref wp), some (.ref rp), some (.ref sp), some (.ref tl), v5, v6] ∧ Same H6 H8 ∧ H8 tl = some (.lst us) ∧ DenAll K (Vw [tl] H8) ((List.range i).map (rowD n ws wt)) us) ⟨[], none, none, rfl, s7, e7, denAll_nil.mpr rfl⟩ ?_ ?_⟩
    · rintro i σ H8 hi ⟨us, v5, v6, rfl, s8, e8, hd8⟩
      have hul := denAll_length hd8
      rw [List.length_map, List.length_range] at hul
      refine ⟨_, rfl, _, rfl, _, rfl, rp, zs, rfl, s8.seqL (SqL.of hrp5), fun bl hbl => ?_⟩
      have ecut : cutV zs (some (0 + (i : Int))) none = zs.drop i := by rw [Int.zero_add]; exact cutV_from zs i
      rw [ecut]
      have s9 := Same.new (o := .lst (zs.drop i)) hbl
      have ebl : upd H8 bl (.lst (zs.drop i)) bl = some (.lst (zs.drop i)) := upd_same
      generalize upd H8 bl (.lst (zs.drop i)) = H9 at s9 ebl ⊢
      have s69 := s8.trans s9
      have etl := s9 _ _ e8
      have hsp9 := s69 _ _ hsp
      have hds9 := s69.denAll _ _ hd5
      have hxl : xs.length = (setsW (upto n.toNat)).length := by rw [denAll_length hd5, List.length_map]
      dsimp only [gName]
      refine ⟨_, rfl, .inl ⟨rfl, _, SqL.of etl⟩, _, rfl, sp, rfl, ⟨_, SqL.of hsp9⟩, comp_list (K := K) (a := sp) (xs := xs) (fun σ => ∃ v, σ = [v, some (.ref bl)]) (fun j rs H10 => Same H9 H10 ∧ DenAll K H10 (((setsW (upto n.toNat)).take j).map fun s => pairD s (bhW s (ws.drop i) (wt.drop i))) rs) (size1 (by omega)) ⟨none, rfl⟩ ⟨Same.refl _, denAll_nil.mpr rfl⟩ ?_ (fun j rs H10 ⟨s10, _⟩ => s10.seqL (SqL.of hsp9)) ?_ ?_⟩
      · rintro j rs H10 ⟨_, hd10⟩
        rw [denAll_length hd10, List.length_map, List.length_take]
        exact Nat.min_le_left _ _
      · rintro j rs σ u H10 hu ⟨v0, rfl⟩ ⟨s10, hd10⟩ hz
        obtain ⟨d, hd1, hd2'⟩ := denAll_at (s10.denAll _ _ hds9) hu
        rw [List.getElem?_map] at hd1
        obtain ⟨t, ht, rfl⟩ := Option.map_eq_some_iff.mp hd1
        obtain ⟨q, rfl, hq⟩ := den_tints.mp hd2'
        have hdz := denAll_drop i ((s69.trans s10).denAll _ _ hd25)
        rw [← List.map_drop] at hdz
        refine ⟨_, rfl, _, rfl, bl, rfl, ⟨_, s10.seqL (SqL.of ebl)⟩, comp_list (K := K) (a := bl) (xs := zs.drop i) (fun σ => ∃ v1 v2, σ = [v1, v2, some (.ref q)]) (fun m ms H11 => Same H10 H11 ∧ ms = ((((ws.zip wt).drop i).take m).filter fun p => withinW t p.1).map fun p => V.int p.2) (size1 (by rw [List.length_drop]; omega)) ⟨none, none, rfl⟩ ⟨Same.refl _, rfl⟩ ?_ (fun m ms H11 ⟨s11, _⟩ => (s10.trans s11).seqL (SqL.of ebl)) ?_ ?_⟩
        · rintro m ms H11 ⟨_, rfl⟩
          rw [List.length_map]
          exact Nat.le_trans (List.length_filter_le _ _) (by rw [List.length_take]; exact Nat.min_le_left _ _)
        · rintro m ms σ u H11 hu2 ⟨v1, v2, rfl⟩ ⟨s11, rfl⟩ hz2
          obtain ⟨d, hd3, hd4⟩ := denAll_at (s11.denAll _ _ hdz) hu2
          rw [List.getElem?_map] at hd3
          obtain ⟨⟨l, w9⟩, hlw, rfl⟩ := Option.map_eq_some_iff.mp hd3
          obtain ⟨p', q', rfl, hp', hq'⟩ := den_pair hd4
          have hll : l.length ≤ 6 := by
            have hm : l ∈ ws := by
              have h1 := List.mem_of_getElem? hlw
              exact (List.of_mem_zip (List.mem_of_mem_drop h1)).1
            obtain ⟨_, h2, h3⟩ := work_parts (hwk l hm)
            have := work_short (by omega) h2 h3
            omega
          have htk : (((ws.zip wt).drop i).take (m + 1)).filter (fun p => withinW t p.1) = ((((ws.zip wt).drop i).take m).filter fun p => withinW t p.1) ++ (if withinW t l = true then [(l, w9)] else []) := by
            rw [List.take_add_one, hlw, List.filter_append]
            congr 1
            show List.filter _ [(l, w9)] = _
            rw [List.filter_cons]
            rfl
          refine ⟨p', _, rfl, hp', rfl, _, _, rfl, _, _, rfl, rfl, ?_⟩
          refine ⟨_, rfl, _, rfl, q', q, l, t, rfl, hq', s11.seqT hq, by omega, fun H12 s12 => ⟨_, rfl, ?_⟩⟩
          refine ite2 (fun c => ?_) (fun c => ?_)
          · refine ⟨_, rfl, hz2, ⟨_, _, rfl⟩, s11.trans s12, ?_⟩
            rw [htk, if_pos c, List.map_append]
            rfl
          · refine ⟨⟨_, _, rfl⟩, s11.trans s12, ?_⟩
            rw [htk, if_neg c, List.append_nil]
        · rintro ms H11 ⟨s11, rfl⟩ pn hpn
          have e2 : ((((ws.zip wt).drop i).take (zs.drop i).length).filter fun p => withinW t p.1).map (fun p => V.int p.2) = (((((ws.drop i).zip (wt.drop i)).filter fun p => withinW t p.1)).map (·.2)).map V.int := by
            rw [List.map_map, List.take_of_length_le (by rw [List.length_drop, List.length_drop, List.length_zip]; omega), drop_zipI]
            rfl
          rw [e2]
          have hlen : ((((ws.drop i).zip (wt.drop i)).filter fun p => withinW t p.1).map (·.2)).length ≤ 12 := by
            rw [List.length_map]
            refine Nat.le_trans (List.length_filter_le _ _) ?_
            rw [List.length_zip, List.length_drop]
            omega
          refine ⟨pn, _, rfl, SqL.of upd_same, fun v hv => ?_, by omega, ?_⟩
          · obtain ⟨⟨l, w9⟩, h1, rfl⟩ := List.mem_map.mp hv
            have h2 := (List.of_mem_zip (List.mem_filter.mp h1).1).2
            have := hwt.2 w9 (List.mem_of_mem_drop h2)
            show 0 ≤ w9 ∧ w9 < 1000000
            omega
          · rw [bhW_sum]
            refine ⟨sz2 _ _, fun pt hpt => ?_⟩
            have s1012 := s11.trans ((Same.new (o := .lst (((((ws.drop i).zip (wt.drop i)).filter fun p => withinW t p.1).map (·.2)).map V.int)) hpn).trans (Same.new (o := .tup [.ref q, .int (bhW t (ws.drop i) (wt.drop i))]) hpt))
            refine ⟨hz, ⟨_, rfl⟩, s10.trans s1012, ?_⟩
            rw [List.take_add_one, ht, List.map_append]
            exact denAll_append (s1012.denAll _ _ hd10) (denAll_cons.mpr ⟨_, _, rfl, den_pairI (SqT.of upd_same) (s1012.seqT hq), denAll_nil.mpr rfl⟩)
      · rintro rs H10 ⟨s10, hd10⟩ pl hpl
        rw [hxl, List.take_length] at hd10
        have s11 := Same.new (o := .lst rs) hpl
        have e11 : upd H10 pl (.lst rs) pl = some (.lst rs) := upd_same
        have hfx : Fx [tl] H10 := fun b hb => by rw [List.mem_singleton.mp hb]; exact ⟨_, s10 _ _ etl⟩
        have hfx2 := hfx.same s11
        have dpl : Den K (Vw [tl] (upd H10 pl (.lst rs))) (rowD n ws wt i) (.ref pl) := den_list.mpr ⟨pl, rs, rfl, SqL.of (Vw.at hfx hpl), Ab.Fx.denAll hfx2 _ _ (noLists_map _ (fun s => noList_pair s _) _) (s11.denAll _ _ hd10)⟩
        have s811 := s9.trans (s10.trans s11)
        generalize upd H10 pl (.lst rs) = H11 at s11 e11 hfx2 dpl s811 ⊢
        refine ⟨tl, us, .ref pl, rfl, rfl, s811 _ _ e8, size1 (by omega), ?_⟩
        refine ⟨us ++ [.ref pl], _, _, rfl, sameWr (s8.trans s811) htl, upd_same, ?_⟩
        rw [List.range_succ, List.map_append]
        exact (Vw1_keep fun b o nb q => by rw [upd_ne nb]; exact q).denAll _ _ (denAll_append ((Vw.same s811).denAll _ _ hd8) (denAll_cons.mpr ⟨_, _, rfl, dpl, denAll_nil.mpr rfl⟩))
    · rintro σ H8 ⟨us, v5, v6, rfl, s8, e8, hd8⟩
      refine ⟨_, rfl, k tl H8 (s05.trans s8) (den_list.mpr ⟨tl, us, rfl, SqL.of e8, ?_⟩)⟩
      rw [← hzl2]
      exact Vw.sub.denAll _ _ hd8
def showsB (prs : List (List Int × Int)) (dl : List Int) (m : Int) : Bool := prs.any fun p => decide ((p.1.length : Int) * (m - 1) < sumTo (p.1.map fun h => dl.getD h.toNat 0) + p.2)
def spShows (K : PySem.W.Frag) : Sp := fun vs H Q _ => ∃ (x : V) (q : Addr) (prs : List (List Int × Int)) (dl : List Int) (m : Int), vs = [x, .ref q, .int m] ∧ Den K H (.list (prs.map fun p => pairD p.1 p.2)) x ∧ SqT K H q (dl.map V.int) ∧ prs.length ≤ 100 ∧ (∀ p ∈ prs, p.1.length ≤ 6 ∧ ∀ h ∈ p.1, 0 ≤ h ∧ h < dl.length) ∧ (∀ v ∈ dl, 0 ≤ v ∧ v < 1000000) ∧ ∀ H', Same H H' → Q (.bl (showsB prs dl m)) H'
theorem scShows : FnScope ["behind", "dealt", "number"] ["behind", "dealt", "number"] (defScope sShows) := ⟨rfl, rfl, rfl, by decide +kernel, rfl, by decide +kernel, by decide +kernel⟩
set_option maxHeartbeats 2000000 in
theorem ok_shows {f : Addr} {fd : FuncData} (G : Fn K mg "shows" sShows ["behind", "dealt", "number"] f fd) (B : Bl mg) : FnOk P w K mg base CX0 1 f fd ["behind", "dealt", "number"] (spShows K) := by
  refine G.fn.ok scShows (fun vs H Q E h => ?_) (fun cdv A outer s H vs Q E hr h => ?_)
  · obtain ⟨x, q, prs, dl, m, rfl, _⟩ := h
    rfl
  · obtain ⟨x, q, prs, dl, m, rfl, hx, hq, hpl, hpr, hdl, k⟩ := h
    refine ⟨_, (pss_one (ps_ret (pe_callB (call_any rfl) rfl B.any b_any (pa_cons (pe_comp (own := ["some", "heft"]) (fr := [1, 2]) (frn := ["dealt", "number"]) (compOk_of (defScope sShows) ["behind", "dealt", "number"] rfl rfl (by decide +kernel)) rfl (pi_list (pv 0))
        (fun _ _ _ _ => (pg_tupK (K := K) (n := 2) rfl rfl (pgs_cons (pg_name (i := 0) (show (["some", "heft", "dealt", "number"] : List Str).Nodup by decide +kernel) rfl (Or.inl rfl)) (pgs_cons (pg_name (i := 1) (show (["some", "heft", "dealt", "number"] : List Str).Nodup by decide +kernel) rfl (Or.inl rfl)) pgs_nil)))) (fun _ _ _ _ => pf_nil)
        (fun _ _ _ _ => (pe_cmpR op_gt (pe_op op_add (pe_callB (call_sumK (K := K) rfl rfl) rfl B.sum b_sum (pa_cons (pe_comp (own := ["hand"]) (fr := [2]) (frn := ["dealt"]) (compOk_of (relS scOutS (defScope sShows)) ["some", "heft", "dealt", "number"] rfl rfl (by decide +kernel)) rfl (pi_tupK (K := K) rfl (pv 0))
        (fun _ _ _ _ => (pg_name (i := 0) (show (["hand", "dealt"] : List Str).Nodup by decide +kernel) rfl (Or.inl rfl))) (fun _ _ _ _ => pf_nil)
        (fun _ _ _ _ => (pe_ix (ix_tupK (K := K) rfl) (pv 1) (pv 0) (fun _ _ => rfl)))) pa_nil)) (pv 1)) (pe_op op_mul (pe_callB (call_len_seqK (K := K) rfl) rfl B.len b_len (pa_cons (pv 0) pa_nil)) (pe_op op_sub (pv 3) pe_int)) (nomark _)))) pa_nil)))), ?_⟩
    obtain ⟨a, xs, rfl, ha, hxs⟩ := den_list.mp hx
    have hxl : xs.length = prs.length := by rw [denAll_length hxs, List.length_map]
    refine ⟨_, rfl, a, rfl, ⟨_, ha⟩, comp_fnL (K := K) (a := a) (xs := xs) (vs := (prs.map fun p => decide ((p.1.length : Int) * (m - 1) < sumTo (p.1.map fun h => dl.getD h.toNat 0) + p.2)).map V.bl) (fun σ => ∃ v1 v2, σ = [v1, v2, some (.ref q), some (.int m)]) (by omega) (by simp [hxl]) ha ⟨none, none, rfl⟩ ?_ ?_⟩
    · rintro i u v σ H2 hu hv ⟨v1, v2, rfl⟩ s2 Q' k'
      obtain ⟨d, hd1, hd2⟩ := denAll_at (s2.denAll _ _ hxs) hu
      rw [List.getElem?_map] at hd1
      obtain ⟨⟨t, g⟩, ht, rfl⟩ := Option.map_eq_some_iff.mp hd1
      rw [List.getElem?_map, List.getElem?_map, ht] at hv
      cases hv
      obtain ⟨p', q', rfl, hp', hq'⟩ := den_pair hd2
      have ⟨htl, htr⟩ := hpr _ (List.mem_of_getElem? ht)
      have htr : ∀ h ∈ t, 0 ≤ h ∧ h < dl.length := htr
      have htl : t.length ≤ 6 := htl
      refine ⟨p', _, rfl, hp', rfl, _, _, rfl, _, _, rfl, rfl, ?_⟩
      refine ⟨_, rfl, q', rfl, ⟨_, hq'⟩, comp_fnT (K := K) (a := q') (xs := t.map V.int) (vs := (t.map fun h => dl.getD h.toNat 0).map V.int) (fun σ => ∃ v, σ = [v, some (.ref q)]) (by rw [List.length_map]; omega) (by simp) hq' ⟨none, rfl⟩ ?_ ?_⟩
      · rintro j y z σ H3 hy hz ⟨v0, rfl⟩ s3 Q2 k2
        rw [List.getElem?_map] at hy
        obtain ⟨h, hh, rfl⟩ := Option.map_eq_some_iff.mp hy
        rw [List.getElem?_map, List.getElem?_map, hh] at hz
        cases hz
        have hb := htr h (List.mem_of_getElem? hh)
        refine ⟨_, rfl, _, rfl, q, _, h, .int (dl.getD h.toNat 0), rfl, rfl, (s2.trans s3).seqT hq, ?_, k2 _ _ ⟨_, rfl⟩ (Same.refl _)⟩
        unfold atI
        rw [ixN_in hb.1 (by rw [List.length_map]; exact hb.2)]
        show (dl.map V.int)[h.toNat]? = _
        rw [List.getElem?_map, List.getD_eq_getElem?_getD, List.getElem?_eq_getElem (by omega)]
        rfl
      · intro H3 s3 pn hpn
        refine ⟨pn, _, rfl, SqL.of upd_same, fun v hv => ?_, by rw [List.length_map]; omega, ?_⟩
        · obtain ⟨h, hh, rfl⟩ := List.mem_map.mp hv
          have hb := htr h hh
          refine hdl _ ?_
          rw [List.getD_eq_getElem?_getD, List.getElem?_eq_getElem (by omega)]
          exact List.getElem_mem _
        · have s33 := s3.trans (Same.new (o := .lst ((t.map fun h => dl.getD h.toNat 0).map V.int)) hpn)
          refine ⟨_, rfl, _, _, rfl, rfl, _, rfl, q', _, rfl, .inr (s33.seqT hq'), _, rfl, _, _, rfl, rfl, _, _, rfl, rfl, .inl ⟨by rw [List.length_map]; omega, by rw [List.length_map]; omega⟩, _, _, rfl, rfl, ?_⟩
          show Q' (.bl (decide (((t.map V.int).length : Int) * (m - 1) < sumTo (t.map fun h => dl.getD h.toNat 0) + g))) _ _
          rw [List.length_map]
          exact k' _ _ ⟨_, _, rfl⟩ s33
    · intro H3 s3 pn hpn
      refine ⟨pn, _, rfl, SqL.of upd_same, ?_⟩
      rw [show (prs.map fun p => decide ((p.1.length : Int) * (m - 1) < sumTo (p.1.map fun h => dl.getD h.toNat 0) + p.2)).any id = showsB prs dl m by unfold showsB; rw [List.any_map]; rfl]
      exact k _ (s3.trans (Same.new hpn))
end
end Ab
set_option Elab.async false
set_option linter.all false
set_option maxRecDepth 100000
namespace Ab
open PySem L2
def TkE (H : Hp) (l : List Int) (x : V) : Prop := ∃ p, x = .ref p ∧ H p = some (.tup (l.map V.int))
def Tk (H : Hp) (bs : List (List Int)) (xs : List V) : Prop := xs.length = bs.length ∧ ∀ (i : Nat) x, xs[i]? = some x → ∃ l, bs[i]? = some l ∧ TkE H l x
theorem TkE.same {H H' : Hp} {l : List Int} {x : V} (h : TkE H l x) (s : Same H H') : TkE H' l x := by
  obtain ⟨p, h1, h2⟩ := h
  exact ⟨p, h1, s _ _ h2⟩
theorem TkE.wr {H : Hp} {S : Addr} {u : HO} {ws : List V} {l : List Int} {x : V} (h : TkE H l x) (hS : H S = some (.lst ws)) : TkE (upd H S u) l x := by
  obtain ⟨p, h1, h2⟩ := h
  exact ⟨p, h1, by rw [upd_ne (fun z => by rw [z, hS] at h2; cases h2)]; exact h2⟩
theorem Tk.nil {H : Hp} : Tk H [] [] := ⟨rfl, fun i x h => by cases h⟩
theorem Tk.imp {H H' : Hp} {bs : List (List Int)} {xs : List V} (h : Tk H bs xs) (f : ∀ l x, TkE H l x → TkE H' l x) : Tk H' bs xs := ⟨h.1, fun i x hx => by
  obtain ⟨l, h1, h2⟩ := h.2 i x hx
  exact ⟨l, h1, f _ _ h2⟩⟩
theorem Tk.same {H H' : Hp} {bs : List (List Int)} {xs : List V} (h : Tk H bs xs) (s : Same H H') : Tk H' bs xs := h.imp fun _ _ e => e.same s
theorem Tk.wr {H : Hp} {S : Addr} {u : HO} {ws : List V} {bs : List (List Int)} {xs : List V} (h : Tk H bs xs) (hS : H S = some (.lst ws)) : Tk (upd H S u) bs xs := h.imp fun _ _ e => e.wr hS
theorem Tk.app {H : Hp} {as bs : List (List Int)} {xs ys : List V} (h : Tk H as xs) (g : Tk H bs ys) : Tk H (as ++ bs) (xs ++ ys) := by
  refine ⟨by rw [List.length_append, List.length_append, h.1, g.1], fun i x hx => ?_⟩
  by_cases hi : i < xs.length
  · rw [List.getElem?_append_left hi] at hx
    obtain ⟨l, h1, h2⟩ := h.2 i x hx
    exact ⟨l, by rw [List.getElem?_append_left (by rw [← h.1]; exact hi)]; exact h1, h2⟩
  · rw [List.getElem?_append_right (by omega)] at hx
    obtain ⟨l, h1, h2⟩ := g.2 _ x hx
    exact ⟨l, by rw [List.getElem?_append_right (by rw [← h.1]; omega), ← h.1]; exact h1, h2⟩
theorem Tk.one {H : Hp} {l : List Int} {x : V} (h : TkE H l x) : Tk H [l] [x] := ⟨rfl, fun i y hy => by
  cases i with
  | zero => cases hy; exact ⟨l, rfl, h⟩
  | succ i => cases hy⟩
theorem Tk.last {H : Hp} {bs : List (List Int)} {xs : List V} (h : Tk H bs xs) (hne : xs ≠ []) : ∃ as b y, bs = as ++ [b] ∧ xs[xs.length - 1]? = some y ∧ TkE H b y ∧ Tk H as xs.dropLast := by
  have hl : 0 < xs.length := List.length_pos_iff.mpr hne
  have hb : bs ≠ [] := fun z => by rw [z] at h; have := h.1; simp at this; exact hne this
  have e := List.dropLast_concat_getLast hb
  have hy : xs[xs.length - 1]? = some (xs[xs.length - 1]'(by omega)) := List.getElem?_eq_getElem _
  obtain ⟨l, h1, h2⟩ := h.2 _ _ hy
  have hl1 : bs[xs.length - 1]? = some (bs.getLast hb) := by rw [h.1, List.getLast_eq_getElem]; exact List.getElem?_eq_getElem _
  rw [hl1] at h1
  cases h1
  refine ⟨bs.dropLast, bs.getLast hb, _, e.symm, hy, h2, by rw [List.length_dropLast, List.length_dropLast, h.1], fun i x hx => ?_⟩
  rw [List.getElem?_dropLast] at hx
  split at hx
  · obtain ⟨l, g1, g2⟩ := h.2 i x hx
    refine ⟨l, ?_, g2⟩
    rw [List.getElem?_dropLast, if_pos (by rw [← h.1]; assumption)]
    exact g1
  · cases hx
theorem TkE.sq {K : PySem.W.Frag} {H : Hp} {l : List Int} {p : Addr} (h : TkE H l (.ref p)) : SqT K H p (l.map V.int) := by
  obtain ⟨q, h1, h2⟩ := h
  cases h1
  exact SqT.of h2
theorem Tk.den {K : PySem.W.Frag} {H : Hp} {bs : List (List Int)} {xs : List V} (h : Tk H bs xs) : DenAll K H (bs.map dealD) xs := by
  refine denAll_ix (by rw [List.length_map]; exact h.1) fun i d z h1 h2 => ?_
  obtain ⟨l, g1, p, rfl, g2⟩ := h.2 i z h2
  rw [List.getElem?_map, g1] at h1
  cases h1
  exact den_tints.mpr ⟨p, rfl, SqT.of g2⟩
theorem denAll_get {K : PySem.W.Frag} {H : Hp} {ds : List PyData} {xs : List V} {i : Nat} {d : PyData} (h : DenAll K H ds xs) (e : ds[i]? = some d) : ∃ x, xs[i]? = some x ∧ Den K H d x := by
  have hi : i < xs.length := by rw [denAll_length h]; exact (List.getElem?_eq_some_iff.mp e).1
  have e2 : xs[i]? = some xs[i] := List.getElem?_eq_getElem hi
  obtain ⟨d', h1, h2⟩ := denAll_at h e2
  rw [e] at h1
  cases h1
  exact ⟨_, e2, h2⟩
theorem shows_eqW {n : Int} {ws : List (List Int)} {wt b : List Int} {m : Int} : showsB ((setsW (upto n.toNat)).map fun s => (s, bhW s (ws.drop b.length) (wt.drop b.length))) (dealtW n wt b) m = showsW n ws wt b m := by
  unfold showsB showsW
  rw [List.any_map]
  rw [Bool.eq_iff_iff, List.any_eq_true, List.any_eq_true]
  have e : ∀ s ∈ setsW (upto n.toNat), (s.map fun h => (dealtW n wt b).getD h.toNat 0) = s.map fun h => dlW h b wt := fun s hs => by
    refine List.map_congr_left fun h hh => ?_
    have := upto_mem.mp (setsW_in _ s hs h hh)
    rw [List.getD_eq_getElem?_getD, dealtW_at this.1 (by omega)]
    rfl
  constructor
  · rintro ⟨s, hs, h⟩
    refine ⟨s, hs, ?_⟩
    have h' : decide ((s.length : Int) * (m - 1) < sumTo (s.map fun h => (dealtW n wt b).getD h.toNat 0) + bhW s (ws.drop b.length) (wt.drop b.length)) = true := h
    rw [e s hs] at h'
    exact h'
  · rintro ⟨s, hs, h⟩
    refine ⟨s, hs, ?_⟩
    show decide ((s.length : Int) * (m - 1) < sumTo (s.map fun h => (dealtW n wt b).getD h.toNat 0) + bhW s (ws.drop b.length) (wt.drop b.length)) = true
    rw [e s hs]
    exact h
theorem begW_range {n : Int} {ws : List (List Int)} (hwk : ∀ l ∈ ws, isWork n (workD l) = true) {b : List Int} (hb : begW ws b = true) : ∀ x ∈ b, 0 ≤ x ∧ x < n := fun x hx => by
  obtain ⟨i, hi⟩ := List.mem_iff_getElem?.mp hx
  have hil : i < ws.length := by
    have := begW_len ws b hb
    have := (List.getElem?_eq_some_iff.mp hi).1
    omega
  have hm := begW_at ws b hb i _ x (List.getElem?_eq_getElem hil) hi
  exact (work_parts (hwk _ (List.getElem_mem hil))).2.1 x hm
theorem sumTo_le {c : Int} : ∀ (l : List Int), (∀ x ∈ l, x ≤ c) → sumTo l ≤ l.length * c
  | [], _ => by show (0 : Int) ≤ 0 * c; omega
  | y :: s, h => by
    have h1 := h y (List.mem_cons_self ..)
    have h2 := sumTo_le s fun x hx => h x (List.mem_cons_of_mem _ hx)
    show y + sumTo s ≤ ((s.length + 1 : Nat) : Int) * c
    have : ((s.length + 1 : Nat) : Int) * c = s.length * c + c := by rw [Int.natCast_add, Int.add_mul]; simp
    omega
theorem dealt_bound {n : Int} {ws : List (List Int)} {wt b : List Int} (hwt : WtOk ws wt) (h7 : ws.length ≤ 12) : ∀ v ∈ dealtW n wt b, 0 ≤ v ∧ v < 1000000 := fun v hv => by
  obtain ⟨h, _, rfl⟩ := List.mem_map.mp hv
  have h1 := dlW_pos (h := h) b wt fun w hw => (hwt.2 w hw).1
  have h2 := sumTo_le (c := 99) wt fun w hw => (hwt.2 w hw).2
  have h3 := hwt.1
  show 0 ≤ dlW h b wt ∧ dlW h b wt < 1000000
  omega
section
variable {P : Program} {w : World} {K : PySem.W.Frag} {mg : Str → Option Value} {base : Heap}
variable {fW fH fK fB fNB : Addr} {dW dH dK dB dNB : FuncData}
def DealV (H : Hp) (deal : Option (List Int)) (dv : V) : Prop := (deal = none ∧ dv = .non) ∨ ∃ d, deal = some d ∧ TkE H d dv
theorem DealV.imp {H H' : Hp} {deal : Option (List Int)} {dv : V} (h : DealV H deal dv) (f : ∀ l x, TkE H l x → TkE H' l x) : DealV H' deal dv := by
  rcases h with h | ⟨d, h1, h2⟩
  · exact .inl h
  · exact .inr ⟨d, h1, f _ _ h2⟩
def spGThru (K : PySem.W.Frag) : Sp := fun vs H Q _ => ∃ (x : V) (n : Int) (ws : List (List Int)) (wp : Addr) (wt : List Int) (number : Int), vs = [x, .ref wp, .int number] ∧ Den K H (bookD n ws) x ∧ isBook (bookD n ws) = true ∧ SqT K H wp (wt.map V.int) ∧ WtOk ws wt ∧ n ≤ 4 ∧ ws.length ≤ 7 ∧
  ∀ p bp xs most deal dv bars H', Same H H' → H' p = some (.tup [.int most, dv, .ref bp]) → H bp = none → H' bp = some (.lst xs) → Tk H' bars xs → GThru n ws wt number most deal bars [] → DealV H' deal dv → Q (.ref p) H'
theorem scGThru : FnScope ["book", "weights", "number", "rows", "most", "deal", "bars", "waiting", "bar", "dealt"] ["book", "weights", "number"] (defScope sGThru) := ⟨rfl, rfl, rfl, by decide +kernel, rfl, by decide +kernel, by decide +kernel⟩
set_option maxHeartbeats 4000000 in
theorem ok_gthru {f fB fD fS : Addr} {fd dB dD dS : FuncData} (G : Fn K mg "gone_through" sGThru ["book", "weights", "number"] f fd) (B : Bl mg) (GWb : Fn K mg "weights_behind" sBehind ["book", "weights"] fB dB) (OWb : FnOk P w K mg base CX0 2 fB dB ["book", "weights"] (spBehind K)) (GWd : Fn K mg "weights_dealt" sWDealt ["hands", "weights", "some"] fD dD) (OWd : FnOk P w K mg base CX0 1 fD dD ["hands", "weights", "some"] (spWDealt K)) (GSh : Fn K mg "shows" sShows ["behind", "dealt", "number"] fS dS) (OSh : FnOk P w K mg base CX0 1 fS dS ["behind", "dealt", "number"] (spShows K)) : FnOk P w K mg base CX0 3 f fd ["book", "weights", "number"] (spGThru K) := by
  refine G.fn.ok scGThru (fun vs H Q E h => ?_) (fun cdv A outer s H vs Q E hr h => ?_)
  · obtain ⟨x, n, ws, wp, wt, number, rfl, _⟩ := h
    rfl
  · obtain ⟨x, n, ws, wp, wt, number, rfl, hx, hbk, hw, hwt, hn4, hl7, k⟩ := h
    have r1 : Room 1 _ := hr.mono (by decide)
    have r2 : Room 2 _ := hr
    refine ⟨_, (pss_cons (ps_set (i := 3) scGThru.nd rfl (Or.inl rfl) (pe_fn GWb OWb r2 rfl (pa_cons (pv 0) (pa_cons (pv 1) pa_nil))))
    (pss_cons (ps_set (i := 4) scGThru.nd rfl (Or.inl rfl) (pv 2))
    (pss_cons (ps_set (i := 5) scGThru.nd rfl (Or.inl rfl) pe_non)
    (pss_cons (ps_set (i := 6) scGThru.nd rfl (Or.inl rfl) (pe_lst pa_nil))
    (pss_cons (ps_set (i := 7) scGThru.nd rfl (Or.inl rfl) (pe_lst (pa_cons (pe_tup pa_nil) pa_nil)))
    (pss_cons (ps_while PassesOwn.never (pt_truth (pv 7) (fun _ => rfl))
      (pss_cons (ps_set (i := 8) scGThru.nd rfl (Or.inr rfl) (pe_bm0 PySem.F.plainAttrs_list PySem.F.slot_list_pop PySem.F.type_list_pop mt_pop (pv 7)))
    (pss_cons (ps_set (i := 9) scGThru.nd rfl (Or.inl rfl) (pe_fn GWd OWd r1 rfl (pa_cons (pe_ix ix_tup (pv 0) pe_int (fun _ _ => rfl)) (pa_cons (pv 1) (pa_cons (pv 8) pa_nil)))))
    (pss_one (ps_if (pt_val (pe_fn GSh OSh r1 rfl (pa_cons (pe_ix ix_list (pv 3) (pe_callB call_len_seq rfl B.len b_len (pa_cons (pv 8) pa_nil)) (fun _ _ => rfl)) (pa_cons (pv 9) (pa_cons (pv 4) pa_nil)))))
      (pss_one (ps_expr (pe_bm PySem.F.plainAttrs_list PySem.F.slot_list_append PySem.F.type_list_append mt_append (pv 6) (pa_cons (pv 8) pa_nil))))
      (pss_one (ps_if (pt_cmpR op_lt (pe_callB call_len_seq rfl B.len b_len (pa_cons (pv 8) pa_nil)) (pe_callB call_len_seq rfl B.len b_len (pa_cons (pv 1) pa_nil)) (nomark _))
      (pss_one (ps_expr (pe_bm PySem.F.plainAttrs_list PySem.F.slot_list_extend PySem.F.type_list_extend mt_extend (pv 7) (pa_cons (pe_comp (own := ["hand"]) (fr := [8]) (frn := ["bar"]) (compOk_of (defScope sGThru) ["book", "weights", "number", "rows", "most", "deal", "bars", "waiting", "bar", "dealt"] rfl rfl (by decide +kernel)) rfl (pi_tup (pe_rev (pe_ix ix_tup (pe_ix ix_tup (pv 0) pe_int (fun _ _ => rfl)) (pe_callB call_len_seq rfl B.len b_len (pa_cons (pv 8) pa_nil)) (fun _ _ => rfl)) (pe_un un_neg pe_int)))
        (fun _ _ _ _ => (pg_name (i := 0) (show (["hand", "bar"] : List Str).Nodup by decide +kernel) rfl (Or.inl rfl))) (fun _ _ _ _ => pf_nil)
        (fun _ _ _ _ => (pe_op (op_cat3 (K := K) rfl) (pv 1) (pe_tup (pa_cons (pv 0) pa_nil))))) pa_nil))))
      (pss_cons (ps_set (i := 4) scGThru.nd rfl (Or.inl rfl) (pe_callB (call_maxTK (K := K) rfl rfl) rfl B.max b_max (pa_cons (pv 9) pa_nil)))
    (pss_cons (ps_set (i := 5) scGThru.nd rfl (Or.inl rfl) (pv 8))
    (pss_one (ps_expr (pe_bm PySem.F.plainAttrs_list PySem.F.slot_list_append PySem.F.type_list_append mt_append (pv 6) (pa_cons (pv 8) pa_nil)))))))))))))
    (pss_one (ps_ret (pe_tup (pa_cons (pv 4) (pa_cons (pv 5) (pa_cons (pv 6) pa_nil)))))))))))), ?_⟩
    obtain ⟨hn1, hn6, h12, hwk⟩ := book_parts hbk
    have hwl := hwt.1
    refine ⟨_, rfl, _, rfl, x, n, ws, wp, wt, rfl, hx, hbk, hw, hwt, fun rp H1 s1 hrp => ?_⟩
    obtain ⟨c, b, ys, e, hc, hb1, hys1⟩ := den_book (s1.den _ _ hx)
    cases e
    have hly := denAll_length hys1
    rw [List.length_map] at hly
    obtain ⟨rp', rs, e, hrs, hrd⟩ := den_list.mp hrp
    cases e
    dsimp only [gName]
    refine ⟨_, rfl, size1 (Nat.zero_le _), fun bp hbp => ⟨size1 (Nat.zero_le _), fun p0 h0 => ⟨sz1 _, fun qp hqp => ?_⟩⟩⟩
    have s2 := (Same.new (o := .lst []) hbp).trans ((Same.new (o := .tup []) h0).trans (Same.new (o := .lst [.ref p0]) hqp))
    have nqp : H1 qp = none := ((Same.new (o := .lst []) hbp).trans (Same.new (o := .tup []) h0)).free hqp
    have e2b := ((Same.new (o := .tup []) h0).trans (Same.new (o := .lst [.ref p0]) hqp)) _ _ (upd_same (H := H1) (a := bp) (o := .lst []))
    have e2q : upd (upd (upd H1 bp (.lst [])) p0 (.tup [])) qp (.lst [.ref p0]) qp = some (.lst [.ref p0]) := upd_same
    have t2 : Tk (upd (upd (upd H1 bp (.lst [])) p0 (.tup [])) qp (.lst [.ref p0])) [[]] [.ref p0] := Tk.one ⟨p0, rfl, (Same.new (o := .lst [.ref p0]) hqp) _ _ upd_same⟩
    have nbq : bp ≠ qp := fun z => by
      have e1 : upd (upd H1 bp (.lst [])) p0 (.tup []) bp = some (.lst []) := (Same.new (o := .tup []) h0) _ _ (upd_same (H := H1) (a := bp) (o := .lst []))
      have e2 := congrArg (upd (upd H1 bp (.lst [])) p0 (.tup [])) z
      rw [e1, hqp] at e2; cases e2
    generalize upd (upd (upd H1 bp (.lst [])) p0 (.tup [])) qp (.lst [.ref p0]) = H2 at s2 e2b e2q t2 ⊢
    dsimp only [gName]
    obtain ⟨W, hW⟩ : ∃ W : Nat → St → Hp → Prop, W = fun m σ H3 => ∃ most deal dv bars wait xs us v8 v9, σ = [some (.ref c), some (.ref wp), some (.int number), some (.ref rp), some (.int most), some dv, some (.ref bp), some (.ref qp), v8, v9] ∧ m = measW ws.length wait ∧ Same H1 H3 ∧ H3 bp = some (.lst xs) ∧ H3 qp = some (.lst us) ∧ Tk H3 bars xs ∧ Tk H3 wait us ∧ GThru n ws wt number most deal bars wait ∧ DealV H3 deal dv := ⟨_, rfl⟩
    refine ⟨W, ⟨_, by rw [hW]; exact ⟨number, none, .non, [], [[]], _, _, none, none, rfl, rfl, s2, e2b, e2q, Tk.nil, t2, gt_start hl7, .inl ⟨rfl, rfl⟩⟩⟩, fun m σ H3 hI => ?_⟩
    rw [hW] at hI
    obtain ⟨most, deal, dv, bars, wait, xs, us, v8, v9, rfl, rfl, s3, e3b, e3q, t3b, t3q, g3, d3⟩ := hI
    have hsz := g3.sz
    have hml := measW_len ws.length wait
    refine ⟨_, rfl, !us.isEmpty, .inl ⟨_, SqL.of e3q, rfl⟩, ?_⟩
    by_cases hne : us = []
    · subst hne
      have hw0 : wait = [] := List.length_eq_zero_iff.mp t3q.1.symm
      subst hw0
      refine iteF ?_
      refine ⟨_, rfl, _, rfl, _, rfl, size1 (show 3 ≤ 1000 by decide), fun p hp => k p bp xs most deal dv bars _ (s1.trans (s3.trans (Same.new hp))) upd_same (s1.free hbp) ((Same.new hp) _ _ e3b) (t3b.same (Same.new hp)) g3 (d3.imp fun _ _ z => z.same (Same.new hp))⟩
    · have hnb : (!us.isEmpty) = true := by cases us with
        | nil => exact absurd rfl hne
        | cons _ _ => rfl
      rw [hnb]
      refine iteT ⟨fun σ' H' => ∃ m', m' < measW ws.length wait ∧ W m' σ' H', fun σ' H' z => z, ?_⟩
      obtain ⟨w0, bb, y, rfl, hy, tb, t3w⟩ := t3q.last hne
      obtain ⟨yp, rfl, hyp⟩ := tb
      have hbb := g3.bs bb (by simp)
      have hbl := begW_len ws bb hbb
      refine ⟨_, rfl, .inl ⟨rfl, _, SqL.of e3q⟩, qp, us, .ref yp, rfl, rfl, e3q, hy, ?_⟩
      have s4 := sameWr (u := .lst us.dropLast) s3 nqp
      have e4b : upd H3 qp (.lst us.dropLast) bp = some (.lst xs) := by rw [upd_ne nbq]; exact e3b
      have e4q : upd H3 qp (.lst us.dropLast) qp = some (.lst us.dropLast) := upd_same
      have t4b := t3b.wr (u := .lst us.dropLast) e3q
      have t4q := t3w.wr (u := .lst us.dropLast) e3q
      have d4 := d3.imp (H' := upd H3 qp (.lst us.dropLast)) fun _ _ z => z.wr e3q
      have y4 : TkE (upd H3 qp (.lst us.dropLast)) bb (.ref yp) := TkE.wr ⟨yp, rfl, hyp⟩ e3q
      have l4 : us.dropLast.length ≤ 21845 := by rw [t3w.1]; rw [List.length_append] at hml; omega
      generalize upd H3 qp (.lst us.dropLast) = H4 at s4 e4b e4q t4b t4q d4 y4 ⊢
      dsimp only [gName]
      refine ⟨_, rfl, c, _, 0, .int n, rfl, rfl, s4.seqT hc, rfl, _, rfl, _, rfl, n, wp, yp, wt, bb, rfl, (s1.trans s4).seqT hw, y4.sq, hn1, hn6, begW_range hwk hbb, fun dp H5 s5 hdp => ?_⟩
      obtain ⟨rw5, hr5, hrd5⟩ := denAll_get ((s4.trans s5).denAll _ _ hrd) (i := bb.length) (d := rowD n ws wt bb.length) (by rw [List.getElem?_map, List.getElem?_range (by omega)]; rfl)
      refine ⟨_, rfl, _, rfl, yp, _, rfl, .inr (y4.same s5).sq, rp, rs, _, rw5, rfl, rfl, (s4.trans s5).seqL hrs, ?_, _, rfl, _, rfl, rw5, dp, (setsW (upto n.toNat)).map fun s => (s, bhW s (ws.drop bb.length) (wt.drop bb.length)), dealtW n wt bb, most, rfl, ?_, SqT.of hdp, ?_, ?_, dealt_bound hwt h12, fun H6 s6 => ⟨_, rfl, ?_⟩⟩
      · rw [List.length_map]
        exact atI_nat hr5
      · rw [List.map_map]
        exact hrd5
      · rw [List.length_map]
        have := setsW_len (upto n.toNat)
        have h2 := pow2_le (m := (upto n.toNat).length) (n := 6) (by rw [upto_length]; omega)
        omega
      · intro p hp
        obtain ⟨t, ht, rfl⟩ := List.mem_map.mp hp
        have h1 := setsW_short _ t ht
        rw [upto_length] at h1
        refine ⟨show t.length ≤ 6 by omega, fun h hh => ?_⟩
        have h2 := upto_mem.mp (setsW_in _ t ht h hh)
        rw [dealtW_len]
        exact h2
      rw [shows_eqW]
      have s46 := s5.trans s6
      have e6b := s46 _ _ e4b
      have e6q := s46 _ _ e4q
      have t6b := t4b.same s46
      have t6q := t4q.same s46
      have d6 := d4.imp fun _ _ z => z.same s46
      have y6 := y4.same s46
      have dp6 := s6 _ _ hdp
      have s06 := s4.trans s46
      have pl := pop_less (wait := w0) (b := bb) ws.length
      refine ite2 (fun c0 => ?_) (fun c0 => ?_)
      · refine ⟨_, rfl, .inl ⟨rfl, _, SqL.of e6b⟩, _, rfl, bp, xs, .ref yp, rfl, rfl, e6b, by rw [sizeLine_eq, t3b.1]; omega, ?_⟩
        refine ⟨_, pl, by rw [hW]; exact ⟨most, deal, dv, bars ++ [bb], w0, xs ++ [.ref yp], _, _, _, rfl, rfl, sameWr s06 hbp, upd_same, (upd_ne (Ne.symm nbq)).trans e6q, (t6b.app (Tk.one y6)).wr e6b, t6q.wr e6b, g3.bar c0, d6.imp fun _ _ z => z.wr e6b⟩⟩
      · have c0 : showsW n ws wt bb most = false := by simpa using c0
        have hw6 := (s1.trans s06).seqT hw
        refine ⟨_, rfl, yp, _, rfl, .inr y6.sq, _, rfl, wp, _, rfl, .inr hw6, _, _, rfl, rfl, _, rfl, ?_⟩
        rw [List.length_map, List.length_map]
        refine ite2 (fun c1 => ?_) (fun c1 => ?_)
        · have c1 : bb.length < ws.length := by have := of_decide_eq_true c1; omega
          have hla : ws[bb.length]? = some ws[bb.length] := List.getElem?_eq_getElem c1
          have hlm := List.getElem_mem c1
          generalize ws[bb.length] = la at hla hlm
          obtain ⟨hl0, hl1, hl2⟩ := work_parts (hwk la hlm)
          have hl4 := work_short (by omega) hl1 hl2
          obtain ⟨u, hu, hdu⟩ := denAll_get (s06.denAll _ _ hys1) (i := bb.length) (d := workD la) (by rw [List.getElem?_map, hla]; rfl)
          obtain ⟨ua, rfl, hua⟩ := den_tints.mp hdu
          refine ⟨_, rfl, .inl ⟨rfl, _, SqL.of e6q⟩, _, rfl, c, _, 1, .ref b, rfl, rfl, s06.seqT hc, rfl, _, rfl, yp, _, rfl, .inr y6.sq, b, ys, _, .ref ua, rfl, rfl, s06.seqT hb1, by rw [List.length_map]; exact atI_nat hu, _, rfl, rfl, ua, _, rfl, hua, fun pr hpr => ?_⟩
          have s7 := Same.new (o := .tup (la.map V.int).reverse) hpr
          have e7 : upd H6 pr (.tup (la.map V.int).reverse) pr = some (.tup (la.map V.int).reverse) := upd_same
          generalize upd H6 pr (.tup (la.map V.int).reverse) = H7 at s7 e7 ⊢
          refine ⟨pr, rfl, ⟨_, SqT.of e7⟩, comp_tup (K := K) (a := pr) (xs := (la.map V.int).reverse) (fun σ => ∃ v, σ = [v, some (.ref yp)]) (fun j zs H8 => Same H7 H8 ∧ Tk H8 ((la.reverse.take j).map fun h => bb ++ [h]) zs) (size1 (by rw [List.length_reverse, List.length_map]; omega)) ⟨none, rfl⟩ ⟨Same.refl _, Tk.nil⟩ ?_ (fun j zs H8 ⟨s8, _⟩ => s8.seqT (SqT.of e7)) ?_ ?_⟩
          · rintro j zs H8 ⟨_, t8⟩
            rw [t8.1, List.length_map, List.length_take]
            exact Nat.min_le_left _ _
          · rintro j zs σ u H8 hu8 ⟨v0, rfl⟩ ⟨s8, t8⟩ hz
            rw [← List.map_reverse, List.getElem?_map] at hu8
            obtain ⟨h, hh, rfl⟩ := Option.map_eq_some_iff.mp hu8
            refine ⟨_, rfl, _, rfl, sz1 _, fun pt hpt => cat3_go (K := K) ((y6.same (s7.trans (s8.trans (Same.new hpt)))).sq) upd_same (by rw [List.length_map]; omega) fun p9 H9 s9 hp9 => ⟨hz, ⟨_, rfl⟩, s8.trans ((Same.new hpt).trans s9), ?_⟩⟩
            rw [List.take_add_one, hh, List.map_append]
            refine (t8.same ((Same.new hpt).trans s9)).app (Tk.one ⟨p9, rfl, ?_⟩)
            rw [hp9, List.map_append]
            rfl
          · rintro zs H8 ⟨s8, t8⟩ pn hpn
            have hlen : ((la.map V.int).reverse).length = la.reverse.length := by simp
            rw [hlen, List.take_length] at t8
            have hzl : zs.length ≤ 4 := by rw [t8.1, List.length_map, List.length_reverse]; omega
            have s9 := Same.new (o := .lst zs) hpn
            have s69 := s7.trans (s8.trans s9)
            have e9q := s69 _ _ e6q
            have e9b := s69 _ _ e6b
            refine ⟨qp, pn, us.dropLast, zs, rfl, rfl, e9q, upd_same, by rw [sizeLine_eq]; omega, ?_⟩
            refine ⟨_, kids_less ws.length c1 (by omega : la.length ≤ 4), by rw [hW]; exact ⟨most, deal, dv, bars, w0 ++ (la.reverse.map fun h => bb ++ [h]), xs, us.dropLast ++ zs, _, _, rfl, rfl, sameWr (s06.trans s69) nqp, (upd_ne nbq).trans e9b, upd_same, (t6b.same s69).wr e9q, ((t6q.same s69).app (t8.same s9)).wr e9q, g3.kids hla (by omega), d6.imp fun _ _ z => (z.same s69).wr e9q⟩⟩
        · have hfull : bb.length = ws.length := by have := of_decide_eq_false (by simpa using c1 : decide ((bb.length : Int) < wt.length) = false); omega
          refine ⟨_, rfl, dp, _, rfl, SqT.of dp6, by rw [dealtW_len]; omega, fun M hM1 hM2 => ?_⟩
          dsimp only [gName]
          refine ⟨_, rfl, _, rfl, .inl ⟨rfl, _, SqL.of e6b⟩, _, rfl, bp, xs, .ref yp, rfl, rfl, e6b, by rw [sizeLine_eq, t3b.1]; omega, ?_⟩
          refine ⟨_, pl, by rw [hW]; exact ⟨M, some bb, .ref yp, bars ++ [bb], w0, xs ++ [.ref yp], _, _, _, rfl, rfl, sameWr s06 hbp, upd_same, (upd_ne (Ne.symm nbq)).trans e6q, (t6b.app (Tk.one y6)).wr e6b, t6q.wr e6b, g3.full hfull ⟨hM1, hM2⟩ c0, .inr ⟨bb, rfl, y6.wr e6b⟩⟩⟩
def spLeastM (K : PySem.W.Frag) : Sp := fun vs H Q _ => ∃ (x : V) (n : Int) (ws : List (List Int)) (wp : Addr) (wt : List Int), vs = [x, .ref wp] ∧ Den K H (bookD n ws) x ∧ isBook (bookD n ws) = true ∧ SqT K H wp (wt.map V.int) ∧ WtOk ws wt ∧ n ≤ 4 ∧ ws.length ≤ 7 ∧
  ∀ p dp bp xs most deal bars H', Same H H' → H' p = some (.tup [.int most, .ref dp, .ref bp]) → H bp = none → H' bp = some (.lst xs) → Tk H' bars xs → LeastW n ws wt most deal bars → TkE H' deal (.ref dp) → Q (.ref p) H'
theorem scLeastM : FnScope ["book", "weights", "most", "deal", "bars"] ["book", "weights"] (defScope sLeastM) := ⟨rfl, rfl, rfl, by decide +kernel, rfl, by decide +kernel, by decide +kernel⟩
set_option maxHeartbeats 2000000 in
theorem ok_leastM {f fN fG : Addr} {fd dN dG : FuncData} (G : Fn K mg "least_most" sLeastM ["book", "weights"] f fd) (B : Bl mg) (GNF : Fn K mg "need_few" sNeedF ["book", "weights"] fN dN) (ONF : FnOk P w K mg base CX0 7 fN dN ["book", "weights"] (spNeedF K)) (GGt : Fn K mg "gone_through" sGThru ["book", "weights", "number"] fG dG) (OGt : FnOk P w K mg base CX0 3 fG dG ["book", "weights", "number"] (spGThru K)) : FnOk P w K mg base CX0 8 f fd ["book", "weights"] (spLeastM K) := by
  refine G.fn.ok scLeastM (fun vs H Q E h => ?_) (fun cdv A outer s H vs Q E hr h => ?_)
  · obtain ⟨x, n, ws, wp, wt, rfl, _⟩ := h
    rfl
  · obtain ⟨x, n, ws, wp, wt, rfl, hx, hbk, hw, hwt, hn4, hl7, k⟩ := h
    have r3 : Room 3 _ := hr.mono (by decide)
    have r7 : Room 7 _ := hr
    refine ⟨_, (pss_cons (ps_expr (pe_fn GNF ONF r7 rfl (pa_cons (pv 0) (pa_cons (pv 1) pa_nil))))
    (pss_cons (ps_asg (pe_fn GGt OGt r3 rfl (pa_cons (pv 0) (pa_cons (pv 1) (pa_cons (pe_op op_add (pe_callB (call_sumTK (K := K) rfl rfl) rfl B.sum b_sum (pa_cons (pv 1) pa_nil)) pe_int) pa_nil)))) (pg_tup rfl (pgs_cons (pg_name (i := 2) scLeastM.nd rfl (Or.inl rfl)) (pgs_cons (pg_name (i := 3) scLeastM.nd rfl (Or.inl rfl)) (pgs_cons (pg_name (i := 4) scLeastM.nd rfl (Or.inl rfl)) pgs_nil)))))
    (pss_one (ps_ret (pe_tup (pa_cons (pv 2) (pa_cons (pv 3) (pa_cons (pe_ix ix_tup (pe_fn GGt OGt r3 rfl (pa_cons (pv 0) (pa_cons (pv 1) (pa_cons (pv 2) pa_nil)))) pe_int (fun _ _ => rfl)) pa_nil)))))))), ?_⟩
    obtain ⟨hn1, hn6, h12, hwk⟩ := book_parts hbk
    have hwp : ∀ w ∈ wt, 0 ≤ w := fun w hw => (hwt.2 w hw).1
    refine ⟨_, rfl, _, rfl, x, n, ws, wp, wt, rfl, hx, hbk, hw, hwt, hn4, hl7, fun H1 s1 => ?_⟩
    have hx1 := s1.den _ _ hx
    have hw1 := s1.seqT hw
    refine ⟨_, rfl, _, rfl, _, rfl, wp, wt, rfl, hw1, fun v hv => ?_, by have := hwt.1; omega, _, _, rfl, rfl, x, n, ws, wp, wt, _, rfl, hx1, hbk, hw1, hwt, hn4, hl7, fun p bp xs most deal dv bars H2 s2 hp nb hb tb g d => ?_⟩
    · have := hwt.2 v hv
      omega
    obtain ⟨dd, rfl, h1, h2, h3⟩ := gt_first hwp (fun l hl => (work_parts (hwk l hl)).1) g
    obtain ⟨d', e, td⟩ : ∃ d', some dd = some d' ∧ TkE H2 d' dv := by
      rcases d with ⟨h, _⟩ | h
      · cases h
      · exact h
    cases e
    obtain ⟨dp, rfl, hdp⟩ := td
    refine ⟨p, _, rfl, SqT.of hp, rfl, _, _, rfl, _, _, rfl, _, _, rfl, rfl, ?_⟩
    have s12 := s1.trans s2
    refine ⟨_, rfl, _, rfl, _, rfl, _, rfl, _, rfl, x, n, ws, wp, wt, most, rfl, s12.den _ _ hx, hbk, s12.seqT hw, hwt, hn4, hl7, fun p2 bp2 xs2 most2 deal2 dv2 bars2 H3 s3 hp2 nb2 hb2 tb2 g2 d2 => ⟨p2, _, 2, .ref bp2, rfl, rfl, SqT.of hp2, rfl, size1 (show 3 ≤ 1000 by decide), fun pr hpr => ?_⟩⟩
    exact k pr dp bp2 xs2 most dd bars2 _ (s12.trans (s3.trans (Same.new hpr))) upd_same (s12.free nb2) ((Same.new hpr) _ _ hb2) (tb2.same (Same.new hpr)) (gt_second hwp g h1 h2 h3 g2) (TkE.same ⟨dp, rfl, hdp⟩ (s3.trans (Same.new hpr)))
end
end Ab
set_option Elab.async false
set_option linter.all false
set_option maxRecDepth 100000
namespace Ab
open PySem L2
def stepF (bars free : List (List Int)) (l : List Int) : List (List Int) := ((free.map fun b => l.map fun h => b ++ [h]).flatten).filter fun b => !decide (b ∈ bars)
def freeW (bars ws : List (List Int)) : List (List Int) := ws.foldl (stepF bars) (if [] ∈ bars then [] else [[]])
theorem freeW_snoc (bars ws : List (List Int)) (l : List Int) : freeW bars (ws ++ [l]) = stepF bars (freeW bars ws) l := by
  unfold freeW
  rw [List.foldl_append]
  rfl
theorem begW_snoc {ws : List (List Int)} {l b : List Int} {h : Int} (hl : b.length = ws.length) : begW (ws ++ [l]) (b ++ [h]) = true ↔ begW ws b = true ∧ h ∈ l := by
  constructor
  · intro hb
    obtain ⟨h1, h2⟩ := begW_split _ _ _ hb
    rw [List.drop_append, hl, List.drop_length, Nat.sub_self, List.drop_zero, List.nil_append] at h2
    have h2' : (decide (h ∈ l) && begW [] []) = true := h2
    refine ⟨?_, of_decide_eq_true (by simpa [begW] using h2')⟩
    clear hb h2 h2'
    have : ∀ (ws b : List (List Int)) (c : List Int), c.length ≤ ws.length → begW (ws ++ b) c = true → begW ws c = true := by
      intro ws
      induction ws with
      | nil => intro b c hc _; rw [List.length_eq_zero_iff.mp (Nat.le_zero.mp hc)]; rfl
      | cons w ws ih =>
        intro b c hc hb
        cases c with
        | nil => rfl
        | cons x c =>
          have hb' : (decide (x ∈ w) && begW (ws ++ b) c) = true := hb
          rw [Bool.and_eq_true] at hb'
          show (decide (x ∈ w) && begW ws c) = true
          rw [hb'.1, ih b c (by simpa using hc) hb'.2]
          rfl
    exact this ws [l] b (by omega) h1
  · rintro ⟨h1, h2⟩
    refine begW_join _ _ _ ?_ ?_
    · have : ∀ (ws b : List (List Int)) (c : List Int), begW ws c = true → begW (ws ++ b) c = true := by
        intro ws
        induction ws with
        | nil => intro b c hc; cases c with
          | nil => cases b <;> rfl
          | cons x c => cases hc
        | cons w ws ih =>
          intro b c hc
          cases c with
          | nil => rfl
          | cons x c =>
            have hc' : (decide (x ∈ w) && begW ws c) = true := hc
            rw [Bool.and_eq_true] at hc'
            show (decide (x ∈ w) && begW (ws ++ b) c) = true
            rw [hc'.1, ih b c hc'.2]
            rfl
      exact this ws [l] b h1
    · rw [List.drop_append, hl, List.drop_length, Nat.sub_self, List.drop_zero, List.nil_append]
      show (decide (h ∈ l) && begW [] []) = true
      rw [decide_eq_true h2]
      rfl
theorem snoc_indL {α : Type} {p : List α → Prop} (h0 : p []) (h1 : ∀ l x, p l → p (l ++ [x])) : ∀ l, p l := by
  intro l
  have : ∀ r : List α, p r.reverse := by
    intro r
    induction r with
    | nil => exact h0
    | cons x r ih => rw [List.reverse_cons]; exact h1 _ _ ih
  have h := this l.reverse
  rwa [List.reverse_reverse] at h
theorem prefix_snoc {c b : List Int} {h : Int} : c <+: b ++ [h] ↔ c <+: b ∨ c = b ++ [h] := by
  constructor
  · rintro ⟨t, ht⟩
    rcases List.eq_nil_or_concat t with rfl | ⟨t', x, rfl⟩
    · exact .inr (by simpa using ht)
    · left
      rw [List.concat_eq_append, ← List.append_assoc] at ht
      exact ⟨t', (List.append_inj' ht rfl).1⟩
  · rintro (h1 | rfl)
    · exact h1.trans (List.prefix_append _ _)
    · exact List.prefix_refl _
theorem mem_freeW (bars : List (List Int)) : ∀ (ws : List (List Int)) (b : List Int), b ∈ freeW bars ws ↔ begW ws b = true ∧ b.length = ws.length ∧ ∀ c, c <+: b → c ∉ bars := by
  refine snoc_indL ?_ ?_
  · intro b
    unfold freeW
    rw [List.foldl_nil]
    constructor
    · intro h
      split at h
      · cases h
      · rename_i hn
        rw [List.mem_singleton.mp h]
        exact ⟨rfl, rfl, fun c hc => by rw [List.prefix_nil.mp hc]; exact hn⟩
    · rintro ⟨_, h2, h3⟩
      have : b = [] := List.length_eq_zero_iff.mp h2
      subst this
      rw [if_neg (h3 [] (List.prefix_refl _))]
      exact List.mem_singleton.mpr rfl
  · intro ws l ih b
    rw [freeW_snoc]
    unfold stepF
    rw [List.mem_filter, List.mem_flatten]
    constructor
    · rintro ⟨⟨L, hL, hb⟩, hn⟩
      obtain ⟨b', hb', rfl⟩ := List.mem_map.mp hL
      obtain ⟨h, hh, rfl⟩ := List.mem_map.mp hb
      obtain ⟨h1, h2, h3⟩ := (ih b').mp hb'
      refine ⟨(begW_snoc h2).mpr ⟨h1, hh⟩, by rw [List.length_append, List.length_append, h2]; rfl, fun c hc => ?_⟩
      rcases prefix_snoc.mp hc with hc | rfl
      · exact h3 c hc
      · simpa using hn
    · rintro ⟨h1, h2, h3⟩
      rcases List.eq_nil_or_concat b with rfl | ⟨b', h, rfl⟩
      · simp at h2
      · rw [List.concat_eq_append] at *
        have hl : b'.length = ws.length := by simpa using h2
        obtain ⟨g1, g2⟩ := (begW_snoc hl).mp h1
        refine ⟨⟨_, List.mem_map.mpr ⟨b', (ih b').mpr ⟨g1, hl, fun c hc => h3 c (prefix_snoc.mpr (.inl hc))⟩, rfl⟩, List.mem_map.mpr ⟨h, g2, rfl⟩⟩, ?_⟩
        have := h3 _ (List.prefix_refl _)
        simpa using this
theorem freeW_cov {bars ws : List (List Int)} (h : ∀ d, begW ws d = true → d.length = ws.length → ∃ b ∈ bars, b <+: d) : freeW bars ws = [] := by
  refine List.eq_nil_iff_forall_not_mem.mpr fun b hb => ?_
  obtain ⟨h1, h2, h3⟩ := (mem_freeW bars ws b).mp hb
  obtain ⟨c, hc, hp⟩ := h b h1 h2
  exact h3 c hp hc
theorem zip_begW : ∀ (ws : List (List Int)) (b : List Int), b.length ≤ ws.length → ((b.zip ws).map fun p => decide (p.1 ∈ p.2)).all id = begW ws b
  | ws, [], _ => by cases ws <;> rfl
  | [], _ :: _, h => by simp at h
  | l :: ws, x :: b, h => by
    rw [List.zip_cons_cons, List.map_cons, List.all_cons, zip_begW ws b (by simpa using h)]
    rfl
theorem inl_kV (k : List Int) : (k.map (Sum.inl : Int → Key)).map kV = k.map V.int := by rw [List.map_map]; rfl
theorem inl_inj {a b : List Int} (h : a.map (Sum.inl : Int → Key) = b.map Sum.inl) : a = b := by
  induction a generalizing b with
  | nil => cases b with
    | nil => rfl
    | cons _ _ => cases h
  | cons x a ih => cases b with
    | nil => cases h
    | cons y b =>
      rw [List.map_cons, List.map_cons] at h
      injection h with h1 h2
      injection h1 with h1
      rw [h1, ih h2]
theorem has_bar {ys : List KE} {bars : List (List Int)} {b : List Int} (h : ∀ q, q ∈ ys.map (·.1) ↔ ∃ b ∈ bars, q = b.map (Sum.inl : Int → Key)) : (valV (ys.map kvE) (b.map Sum.inl)).isSome = decide (b ∈ bars) := by
  rw [← valV_any, Bool.eq_iff_iff, List.any_eq_true, decide_eq_true_iff]
  constructor
  · rintro ⟨e, he, h2⟩
    obtain ⟨e0, h0, rfl⟩ := List.mem_map.mp he
    obtain ⟨b', hb', e1⟩ := (h e0.1).mp (List.mem_map.mpr ⟨e0, h0, rfl⟩)
    have : e0.1 = b.map Sum.inl := of_decide_eq_true h2
    rw [e1] at this
    rw [← inl_inj this]; exact hb'
  · intro hb
    obtain ⟨e0, h0, h1⟩ := List.mem_map.mp ((h _).mpr ⟨b, hb, rfl⟩)
    exact ⟨kvE e0, List.mem_map.mpr ⟨e0, h0, rfl⟩, decide_eq_true h1⟩
section
variable {P : Program} {w : World} {K : PySem.W.Frag} {mg : Str → Option Value} {base : Heap}
variable {fW fH fK fB fNB : Addr} {dW dH dK dB dNB : FuncData}
def spBegins (K : PySem.W.Frag) : Sp := fun vs H Q _ => ∃ (x : V) (n : Int) (ws : List (List Int)) (p : Addr) (b : List Int), vs = [x, .ref p] ∧ Den K H (bookD n ws) x ∧ isBook (bookD n ws) = true ∧ SqT K H p (b.map V.int) ∧ ∀ H', Same H H' → Q (.bl (begW ws b)) H'
theorem scBegins : FnScope ["book", "thing"] ["book", "thing"] (defScope sBegins) := ⟨rfl, rfl, rfl, by decide +kernel, rfl, by decide +kernel, by decide +kernel⟩
theorem ok_begins {f : Addr} {fd : FuncData} (G : Fn K mg "begins_deal" sBegins ["book", "thing"] f fd) (B : Bl mg) (R : Pr K mg fW fH fK fB fNB dW dH dK dB dNB) : FnOk P w K mg base CX0 2 f fd ["book", "thing"] (spBegins K) := by
  have OW : FnOk P w K mg base CX0 1 fW dW ["thing"] (spWhole K) := ok_whole R.W B
  refine G.fn.ok scBegins (fun vs H Q E h => ?_) (fun cdv A outer s H vs Q E hr h => ?_)
  · obtain ⟨x, n, ws, p, b, rfl, _⟩ := h
    rfl
  · obtain ⟨x, n, ws, p, b, rfl, hx, hbk, hp, k⟩ := h
    have r1 : Room 1 _ := hr
    refine ⟨_, (pss_cons (ps_if (PW.pt (pw_or (pt_not (pt_val (pe_callB call_isi_tuple rfl B.isinstance b_isi (pa_cons (pv 1) (pa_cons (pe_bltn (v := .ty "tuple") rfl B.tuple b_tuple rfl) pa_nil))))) (pw_or1 (pt_cmpR op_gt (pe_callB call_len_seq rfl B.len b_len (pa_cons (pv 1) pa_nil)) (pe_callB call_len_seq rfl B.len b_len (pa_cons (pe_ix ix_tup (pv 0) pe_int (fun _ _ => rfl)) pa_nil)) (nomark _)))))
      (pss_one (ps_ret pe_bl))
      pss_nil)
    (pss_one (ps_ret (pe_callB (call_all rfl) rfl B.all b_all (pa_cons (pe_comp (own := ["hand", "able"]) (fr := []) (frn := []) (compOk_of (defScope sBegins) ["book", "thing"] rfl rfl (by decide +kernel)) rfl (pi_zip .t .t rfl B.zip (pa_cons (pv 1) (pa_cons (pe_ix ix_tup (pv 0) pe_int (fun _ _ => rfl)) pa_nil)))
        (fun _ _ _ _ => (pg_tupK (K := K) (n := 2) rfl rfl (pgs_cons (pg_name (i := 0) (show (["hand", "able"] : List Str).Nodup by decide +kernel) rfl (Or.inl rfl)) (pgs_cons (pg_name (i := 1) (show (["hand", "able"] : List Str).Nodup by decide +kernel) rfl (Or.inl rfl)) pgs_nil)))) (fun _ _ _ _ => pf_nil)
        (fun _ _ _ _ => (pe_and (pe_fn R.W OW r1 rfl (pa_cons (pv 0) pa_nil)) (pe_one (pe_cmpR (op_in_seqK (K := K) rfl) (pv 0) (pv 1) (by with_unfolding_all rfl)))))) pa_nil))))), ?_⟩
    obtain ⟨c, bb, ys, e, hc, hb1, hys1⟩ := den_book hx
    cases e
    have hly := denAll_length hys1
    rw [List.length_map] at hly
    obtain ⟨hn1, hn6, h12, hwk⟩ := book_parts hbk
    refine ⟨_, rfl, .ref p, .tup, rfl, (sq_kd hp).kd, _, rfl, ?_⟩
    refine iteF ?_
    refine ⟨_, rfl, p, _, rfl, .inr hp, _, rfl, c, _, 1, .ref bb, rfl, rfl, hc, rfl, bb, ys, rfl, .inr hb1, _, _, rfl, rfl, _, rfl, ?_⟩
    rw [List.length_map, hly]
    refine ite2 (fun c0 => ?_) (fun c0 => ?_)
    · have hlt : ws.length < b.length := by have := of_decide_eq_true c0; omega
      have e : begW ws b = false := by
        cases q : begW ws b with
        | false => rfl
        | true => have := begW_len ws b q; omega
      rw [← e]
      exact k _ (Same.refl _)
    · have hle : b.length ≤ ws.length := by have := of_decide_eq_false (by simpa using c0 : decide ((ws.length : Int) < b.length) = false); omega
      refine ⟨_, rfl, _, rfl, c, _, 1, .ref bb, rfl, rfl, hc, rfl, p, bb, _, _, rfl, hp, hb1, comp_fnZ (K := K) (k1 := .t) (k2 := .t) (a := p) (b := bb) (xs := b.map V.int) (zs := ys) (vs := ((b.zip ws).map fun p => decide (p.1 ∈ p.2)).map V.bl) (fun σ => ∃ v1 v2, σ = [v1, v2]) (by rw [List.length_map]; omega) (by rw [List.length_map]; omega) (by simp; omega) (fun H' s' => ⟨s'.seqT hp, s'.seqT hb1⟩) ⟨none, none, rfl⟩ ?_ ?_⟩
      · rintro i u z v t σ H2 hu hz hv ht ⟨v1, v2, rfl⟩ s2 Q' k'
        rw [List.getElem?_map] at hu
        obtain ⟨h, hh, rfl⟩ := Option.map_eq_some_iff.mp hu
        obtain ⟨d, hd1, hd2⟩ := denAll_at (s2.denAll _ _ hys1) hz
        rw [List.getElem?_map] at hd1
        obtain ⟨l, hl, rfl⟩ := Option.map_eq_some_iff.mp hd1
        obtain ⟨q, rfl, hq⟩ := den_tints.mp hd2
        rw [List.getElem?_map, List.getElem?_map, (List.getElem?_zip_eq_some (z := (h, l))).mpr ⟨hh, hl⟩] at hv
        cases hv
        have s3 := Same.new (o := .tup [.int h, .ref q]) ht
        have t3 : upd H2 t (.tup [.int h, .ref q]) t = some (.tup [.int h, .ref q]) := upd_same
        generalize upd H2 t (.tup [.int h, .ref q]) = H3 at s3 t3 ⊢
        refine ⟨t, _, rfl, SqT.of t3, rfl, _, _, rfl, _, _, rfl, rfl, ?_⟩
        refine ⟨_, rfl, .int h, .int h, rfl, den_int.mpr rfl, _, rfl, iteT ?_⟩
        refine ⟨_, rfl, _, rfl, q, l.map V.int, rfl, .inr (s3.seqT hq), rfl, flat_ints _, ?_⟩
        show Q' (.bl (inV (.int h) (l.map V.int))) _ _
        rw [in_memI]
        exact k' _ _ ⟨_, _, rfl⟩ s3
      · intro H3 s3 pn hpn
        refine ⟨pn, _, rfl, SqL.of upd_same, ?_⟩
        rw [zip_begW ws b hle]
        exact k _ (s3.trans (Same.new hpn))
def spBegEach (K : PySem.W.Frag) : Sp := fun vs H Q _ => ∃ (x : V) (n : Int) (ws : List (List Int)) (bp : Addr) (xs : List V) (bars : List (List Int)), vs = [x, .ref bp] ∧ Den K H (bookD n ws) x ∧ isBook (bookD n ws) = true ∧ n ≤ 4 ∧ ws.length ≤ 7 ∧ H bp = some (.lst xs) ∧ Tk H bars xs ∧ bars.length ≤ 100000 ∧ ∀ H', Same H H' → Q (.bl (freeW bars ws).isEmpty) H'
theorem scBegEach : FnScope ["book", "bars", "barred", "free", "able", "longer"] ["book", "bars"] (defScope sBegEach) := ⟨rfl, rfl, rfl, by decide +kernel, rfl, by decide +kernel, by decide +kernel⟩
set_option maxHeartbeats 4000000 in
theorem ok_begEach {f : Addr} {fd : FuncData} (G : Fn K mg "begin_each_deal" sBegEach ["book", "bars"] f fd) (B : Bl mg) : FnOk P w K mg base CX0 1 f fd ["book", "bars"] (spBegEach K) := by
  refine G.fn.ok scBegEach (fun vs H Q E h => ?_) (fun cdv A outer s H vs Q E hr h => ?_)
  · obtain ⟨x, n, ws, bp, xs, bars, rfl, _⟩ := h
    rfl
  · obtain ⟨x, n, ws, bp, xs, bars, rfl, hx, hbk, hn4, hl7, hbp, tb, hbl, k⟩ := h
    refine ⟨_, (pss_cons (ps_set (i := 2) scBegEach.nd rfl (Or.inr rfl) (pe_dcompP (hu_of hr) (own := ["bar"]) (fr := []) (frn := []) (compOk_of (defScope sBegEach) ["book", "bars", "barred", "free", "able", "longer"] rfl rfl (by decide +kernel)) rfl (pi_list (pv 1)) (fun _ _ _ _ => (pg_name (i := 0) (show (["bar"] : List Str).Nodup by decide +kernel) rfl (Or.inl rfl))) (fun _ _ _ _ => pf_nil) (fun _ _ _ _ => (pv 0)) (fun _ _ _ _ => pe_bl)))
    (pss_mid (ps_set (i := 3) scBegEach.nd rfl (Or.inl rfl) (pe_ifExp (pt_cmp (pc_din (hu_of hr) (pe_tup pa_nil) (pv 2)) (by with_unfolding_all rfl)) (pe_lst pa_nil) (pe_lst (pa_cons (pe_tup pa_nil) pa_nil))))
    (pss_cons (ps_for PassesOwn.never rfl (pi_tup (pe_ix ix_tup (pv 0) pe_int (fun _ _ => rfl))) (pg_name (i := 4) scBegEach.nd rfl (Or.inr rfl))
      (pss_cons (ps_setcomp2 (i := 5) (own := ["begun", "hand"]) (fr := [4]) (frn := ["able"]) (compOk_of (defScope sBegEach) ["book", "bars", "barred", "free", "able", "longer"] rfl rfl (by decide +kernel)) rfl scBegEach.nd rfl rfl rfl (pi_list (pv 3)) (fun _ _ _ _ => (pg_name (i := 0) (show (["begun", "hand", "able"] : List Str).Nodup by decide +kernel) rfl (Or.inl rfl))) (fun _ _ _ _ => (pi_tupK (K := K) rfl (pv 2))) (fun _ _ _ _ => (pg_name (i := 1) (show (["begun", "hand", "able"] : List Str).Nodup by decide +kernel) rfl (Or.inl rfl))) (fun _ _ _ _ => (pe_op (op_cat3 (K := K) rfl) (pv 0) (pe_tup (pa_cons (pv 1) pa_nil)))))
      (pss_one (ps_setcomp (i := 3) (own := ["begun"]) (fr := [2]) (frn := ["barred"]) (compOk_of (defScope sBegEach) ["book", "bars", "barred", "free", "able", "longer"] rfl rfl (by decide +kernel)) rfl scBegEach.nd rfl rfl rfl (pi_list (pv 5)) (fun _ _ _ _ => (pg_name (i := 0) (show (["begun", "barred"] : List Str).Nodup by decide +kernel) rfl (Or.inl rfl))) (fun _ _ _ _ => pf_one (pt_cmp (pc_dnotin (hu_of hr) (pv 0) (pv 1)) (by with_unfolding_all rfl))) (fun _ _ _ _ => (pv 0))))))
    (pss_one (ps_ret (pe_cmpR op_eq (pe_callB call_len_seq rfl B.len b_len (pa_cons (pv 3) pa_nil)) pe_int (nomark _))))))), ?_⟩
    obtain ⟨c, bb, ys2, e, hc, hb1, hys1⟩ := den_book hx
    cases e
    have hly := denAll_length hys1
    rw [List.length_map] at hly
    obtain ⟨hn1, hn6, h12, hwk⟩ := book_parts hbk
    have hxl := tb.1
    refine ⟨_, rfl, bp, rfl, ⟨_, SqL.of hbp⟩, dcomp_listP (K := K) (a := bp) (xs := xs) (fun σ => ∃ v, σ = [v]) (fun i ys H2 => H2 = H ∧ Kp ys H ∧ ys.length ≤ i ∧ ∀ q, q ∈ ys.map (·.1) ↔ ∃ b ∈ bars.take i, q = b.map (Sum.inl : Int → Key)) (by rw [sizeLine_eq]; omega) ⟨none, rfl⟩ ⟨rfl, (fun e he => (List.not_mem_nil he).elim), Nat.le_refl _, fun q => ⟨fun h => (List.not_mem_nil h).elim, fun ⟨b, hb, _⟩ => (List.not_mem_nil hb).elim⟩⟩ (fun i ys H2 h => h.2.2.1) (fun i ys H2 h => by rw [h.1]; exact ⟨SqL.of hbp, h.2.1⟩) ?_ ?_⟩
    · rintro i ys σ u H2 hu ⟨v, rfl⟩ ⟨rfl, kp, hyl, hm⟩ hz
      obtain ⟨l, hl, p, rfl, hp⟩ := tb.2 i u hu
      have hk : H2 p = some (.tup ((l.map (Sum.inl : Int → Key)).map kV)) := by rw [inl_kV]; exact hp
      refine ⟨_, rfl, l.map Sum.inl, p, rfl, hk, kp, hz, ⟨_, rfl⟩, rfl, kp.put hk, by have := putE_len ys (l.map Sum.inl) p (.bl true); omega, fun q => ?_⟩
      rw [putE_mem, hm, List.take_add_one, hl]
      constructor
      · rintro (⟨b, hb, e⟩ | e)
        · exact ⟨b, List.mem_append_left _ hb, e⟩
        · exact ⟨l, List.mem_append_right _ (List.mem_singleton.mpr rfl), e⟩
      · rintro ⟨b, hb, e⟩
        rcases List.mem_append.mp hb with hb | hb
        · exact .inl ⟨b, hb, e⟩
        · right
          rw [e, List.mem_singleton.mp hb]
    rintro ys H2 ⟨rfl, kp, _, hm⟩ dp hdp
    rw [hxl, List.take_length] at hm
    have s1 := Same.new (o := .dT (ys.map kvE)) hdp
    have e1 : upd H2 dp (.dT (ys.map kvE)) dp = some (.dT (ys.map kvE)) := upd_same
    generalize upd H2 dp (.dT (ys.map kvE)) = H1 at s1 e1 ⊢
    have hin : ∀ {H' : Hp} {p : Addr} {l : List Int}, Same H1 H' → H' p = some (.tup (l.map V.int)) → ∃ o, DGet H' dp (.ref p) o ∧ o.isSome = decide (l ∈ bars) := fun {H' p l} s' hp => ⟨_, DGet.t (k := l.map Sum.inl) (s' _ _ e1) (by rw [inl_kV]; exact hp), has_bar hm⟩
    dsimp only [gName]
    refine ⟨fun σ H' => ∃ fp fs v4 v5, σ = [some (.ref c), some (.ref bp), some (.ref dp), some (.ref fp), v4, v5] ∧ Same H1 H' ∧ H' fp = some (.lst fs) ∧ Tk H' (freeW bars []) fs, ?_, ?_⟩
    · refine ⟨size1 (Nat.zero_le _), fun p0 h0 => ?_⟩
      obtain ⟨o, hg, ho⟩ := hin (l := []) (Same.new h0) (upd_same (o := .tup []))
      refine ⟨_, rfl, dp, o, rfl, hg, ?_⟩
      rw [ho]
      refine ⟨_, rfl, ite2 (fun c0 => ?_) (fun c0 => ?_)⟩
      · refine ⟨size1 (Nat.zero_le _), fun fp hfp => ⟨fp, [], none, none, rfl, (Same.new h0).trans (Same.new hfp), upd_same, ?_⟩⟩
        unfold freeW
        rw [List.foldl_nil, if_pos (of_decide_eq_true c0)]
        exact Tk.nil
      · refine ⟨size1 (Nat.zero_le _), fun p1 h1 => ⟨sz1 _, fun fp hfp => ⟨fp, [.ref p1], none, none, rfl, (Same.new h0).trans ((Same.new h1).trans (Same.new hfp)), upd_same, ?_⟩⟩⟩
        unfold freeW
        rw [List.foldl_nil, if_neg (fun z => c0 (decide_eq_true z))]
        exact Tk.one ⟨p1, rfl, (Same.new hfp) _ _ upd_same⟩
    · rintro σ H2 ⟨fp, fs, v4, v5, rfl, s2, hfp, tf⟩
      refine ⟨_, rfl, c, _, 1, .ref bb, rfl, rfl, (s1.trans s2).seqT hc, rfl, bb, rfl, ⟨_, (s1.trans s2).seqT hb1⟩, for_tup (K := K) (a := bb) (xs := ys2) (fun i σ H3 => ∃ fp fs v4 v5, σ = [some (.ref c), some (.ref bp), some (.ref dp), some (.ref fp), v4, v5] ∧ Same H1 H3 ∧ H3 fp = some (.lst fs) ∧ Tk H3 (freeW bars (ws.take i)) fs ∧ (freeW bars (ws.take i)).length ≤ 4 ^ i) ⟨fp, fs, v4, v5, rfl, s2, hfp, by rw [List.take_zero]; exact tf, by rw [List.take_zero]; unfold freeW; rw [List.foldl_nil]; split <;> decide⟩ (fun i σ H3 _ ⟨_, _, _, _, _, s3, _⟩ => (s1.trans s3).seqT hb1) ?_ ?_⟩
      · rintro i y σ H3 hy ⟨fp, fs, v4, v5, rfl, s3, hfp, tf, hfl⟩
        obtain ⟨d, hd1, hd2⟩ := denAll_at ((s1.trans s3).denAll _ _ hys1) hy
        rw [List.getElem?_map] at hd1
        obtain ⟨l, hl, rfl⟩ := Option.map_eq_some_iff.mp hd1
        obtain ⟨ua, rfl, hua⟩ := den_tints.mp hd2
        have hiw : i < ws.length := (List.getElem?_eq_some_iff.mp hl).1
        obtain ⟨hl0, hl1, hl2⟩ := work_parts (hwk l (List.mem_of_getElem? hl))
        have hl4 := work_short (by omega) hl1 hl2
        have hp7 : 4 ^ i ≤ 4 ^ 7 := Nat.pow_le_pow_right (by decide) (by omega)
        have e47 : 4 ^ 7 = 16384 := by decide
        have hfr : freeW bars (ws.take (i + 1)) = stepF bars (freeW bars (ws.take i)) l := by rw [List.take_add_one, hl]; exact freeW_snoc _ _ _
        have hbl7 : ∀ b ∈ freeW bars (ws.take i), b.length ≤ 7 := fun b hb => by
          have := ((mem_freeW _ _ _).mp hb).2.1
          rw [this, List.length_take]
          omega
        generalize freeW bars (ws.take i) = fr at tf hfl hfr hbl7
        have hflat : ∀ L : List (List Int), ((L.map fun b => l.map fun h => b ++ [h]).flatten).length = L.length * l.length := fun L => by
          induction L with
          | nil => simp
          | cons b r ih => rw [List.map_cons, List.flatten_cons, List.length_append, ih, List.length_map, List.length_cons, Nat.add_mul]; omega
        have hfs := tf.1
        refine ⟨_, rfl, fp, rfl, ⟨_, SqL.of hfp⟩, comp2_list (K := K) (a := fp) (xs := fs) (fun j zs σ H4 => (∃ v0 v1, σ = [v0, v1, some (.ref ua)]) ∧ Same H3 H4 ∧ Tk H4 (((fr.take j).map fun b => l.map fun h => b ++ [h]).flatten) zs) ⟨⟨_, _, rfl⟩, Same.refl _, Tk.nil⟩ (fun j zs σ H4 ⟨_, s4, _⟩ => s4.seqL (SqL.of hfp)) ?_ ?_⟩
        · rintro j u zs σ H4 hu ⟨⟨v0, v1, rfl⟩, s4, t4⟩
          obtain ⟨b, hb, p, rfl, hp⟩ := tf.2 j u hu
          have hjl : j < fr.length := (List.getElem?_eq_some_iff.mp hb).1
          have hb7 := hbl7 b (List.mem_of_getElem? hb)
          have hfl2 : (((fr.take j).map fun b => l.map fun h => b ++ [h]).flatten).length ≤ 16384 * 4 := by
            rw [hflat, List.length_take]
            exact Nat.mul_le_mul (by omega) (by omega)
          refine ⟨_, rfl, ua, rfl, ⟨_, s4.seqT hua⟩, comp2_tupIn (K := K) (b := ua) (zs := l.map V.int) (fun m us σ H5 => (∃ v1, σ = [some (.ref p), v1, some (.ref ua)]) ∧ Same H4 H5 ∧ Tk H5 (((fr.take j).map fun b => l.map fun h => b ++ [h]).flatten ++ ((l.take m).map fun h => b ++ [h])) us) ⟨⟨_, rfl⟩, Same.refl _, by rw [List.take_zero, List.map_nil, List.append_nil]; exact t4⟩ (fun m us σ H5 ⟨_, s5, _⟩ => (s4.trans s5).seqT hua) ?_ ?_⟩
          · rintro m z us σ H5 hz ⟨⟨v1, rfl⟩, s5, t5⟩
            rw [List.getElem?_map] at hz
            obtain ⟨h, hh, rfl⟩ := Option.map_eq_some_iff.mp hz
            have hul : us.length ≤ 16384 * 4 + 4 := by
              rw [t5.1, List.length_append, List.length_map, List.length_take]
              omega
            refine ⟨_, rfl, _, rfl, sz1 _, fun pt hpt => cat3_go (K := K) (SqT.of ((s4.trans (s5.trans (Same.new hpt))) _ _ hp)) upd_same (by rw [List.length_map]; omega) fun p9 H9 s9 hp9 => ⟨by rw [sizeLine_eq]; omega, ⟨_, rfl⟩, s5.trans ((Same.new hpt).trans s9), ?_⟩⟩
            rw [List.take_add_one, hh, List.map_append, ← List.append_assoc]
            refine (t5.same ((Same.new hpt).trans s9)).app (Tk.one ⟨p9, rfl, ?_⟩)
            rw [hp9, List.map_append]
            rfl
          · rintro us σ H5 ⟨⟨v1, rfl⟩, s5, t5⟩
            refine ⟨⟨_, _, rfl⟩, s4.trans s5, ?_⟩
            rw [List.take_add_one, hb, List.map_append, List.flatten_append]
            rw [List.length_map, List.take_length] at t5
            show Tk H5 (_ ++ (List.map _ [b]).flatten) us
            rw [List.map_cons, List.map_nil, List.flatten_cons, List.flatten_nil, List.append_nil]
            exact t5
        · rintro zs σ H4 ⟨⟨v0, v1, rfl⟩, s4, t4⟩ lp hlp
          rw [hfs, List.take_length] at t4
          have s5 := Same.new (o := .lst zs) hlp
          have e5 : upd H4 lp (.lst zs) lp = some (.lst zs) := upd_same
          have t5 := t4.same s5
          generalize upd H4 lp (.lst zs) = H5 at s5 e5 t5 ⊢
          have hll := hflat fr
          have hzl : zs.length ≤ 16384 * 4 := by
            rw [t4.1, hll]
            exact Nat.mul_le_mul (by omega) (by omega)
          unfold stepF at hfr
          generalize (fr.map fun b => l.map fun h => b ++ [h]).flatten = lo at t5 hfr hll
          have s35 := s4.trans s5
          dsimp only [gName]
          refine ⟨_, rfl, lp, rfl, ⟨_, SqL.of e5⟩, comp_list (K := K) (a := lp) (xs := zs) (fun σ => ∃ v, σ = [v, some (.ref dp)]) (fun m us H6 => H6 = H5 ∧ Tk H5 ((lo.take m).filter fun b => !decide (b ∈ bars)) us) (by rw [sizeLine_eq]; omega) ⟨none, rfl⟩ ⟨rfl, Tk.nil⟩ ?_ (fun m us H6 h => by rw [h.1]; exact SqL.of e5) ?_ ?_⟩
          · rintro m us H6 ⟨_, t6⟩
            rw [t6.1]
            exact Nat.le_trans (List.length_filter_le _ _) (by rw [List.length_take]; exact Nat.min_le_left _ _)
          · rintro m us σ u H6 hu ⟨v, rfl⟩ ⟨rfl, t6⟩ hz
            obtain ⟨b, hb, p, rfl, hp⟩ := t5.2 m u hu
            obtain ⟨o, hg, ho⟩ := hin (s3.trans s35) hp
            refine ⟨_, rfl, _, rfl, dp, o, rfl, hg, _, rfl, ?_⟩
            rw [ho]
            have htk : (lo.take (m + 1)).filter (fun b => !decide (b ∈ bars)) = (lo.take m).filter (fun b => !decide (b ∈ bars)) ++ (if (!decide (b ∈ bars)) = true then [b] else []) := by
              rw [List.take_add_one, hb, List.filter_append]
              congr 1
              show List.filter _ [b] = _
              rw [List.filter_cons]
              rfl
            refine ite2 (fun c0 => ?_) (fun c0 => ?_)
            · refine ⟨_, rfl, hz, ⟨_, rfl⟩, rfl, ?_⟩
              rw [htk, if_pos c0]
              exact t6.app (Tk.one ⟨p, rfl, hp⟩)
            · refine ⟨⟨_, rfl⟩, rfl, ?_⟩
              rw [htk, if_neg c0, List.append_nil]
              exact t6
          · rintro us H6 ⟨rfl, t6⟩ nf hnf
            rw [t5.1, List.take_length] at t6
            refine ⟨nf, us, _, _, rfl, s3.trans (s35.trans (Same.new hnf)), upd_same, by rw [hfr]; exact t6.same (Same.new hnf), ?_⟩
            rw [hfr]
            refine Nat.le_trans (List.length_filter_le _ _) ?_
            rw [hll, Nat.pow_succ]
            exact Nat.mul_le_mul (by omega) (by omega)
      · rintro σ H3 ⟨fp, fs, v4, v5, rfl, s3, hfp, tf, hfl⟩
        refine ⟨_, rfl, fp, fs, rfl, .inl (SqL.of hfp), rfl, ?_⟩
        rw [hly, List.take_length] at tf
        have e : decide (V.int (fs.length : Int) = V.int 0) = (freeW bars ws).isEmpty := by
          rw [tf.1]
          cases freeW bars ws with
          | nil => rfl
          | cons b r => exact decide_eq_false fun z => by injection z with z; simp at z; omega
        rw [e]
        exact k _ (s1.trans s3)
def doShowW (n : Int) (ws : List (List Int)) (wt : List Int) (bars : List (List Int)) (m : Int) : Bool := bars.all (begW ws) && ((freeW bars ws).isEmpty && bars.all fun b => showsW n ws wt b m)
def spDoShow (K : PySem.W.Frag) : Sp := fun vs H Q _ => ∃ (x : V) (n : Int) (ws : List (List Int)) (wp : Addr) (wt : List Int) (bp : Addr) (xs : List V) (bars : List (List Int)) (m : Int), vs = [x, .ref wp, .ref bp, .int m] ∧ Den K H (bookD n ws) x ∧ isBook (bookD n ws) = true ∧ SqT K H wp (wt.map V.int) ∧ WtOk ws wt ∧ n ≤ 4 ∧ ws.length ≤ 7 ∧ H bp = some (.lst xs) ∧ Tk H bars xs ∧ bars.length ≤ 100000 ∧ ∀ H', Same H H' → Q (.bl (doShowW n ws wt bars m)) H'
theorem scDoShow : FnScope ["book", "weights", "bars", "number", "rows"] ["book", "weights", "bars", "number"] (defScope sDoShow) := ⟨rfl, rfl, rfl, by decide +kernel, rfl, by decide +kernel, by decide +kernel⟩
set_option maxHeartbeats 4000000 in
theorem ok_doShow {f fN fG fE fB2 fD2 fS : Addr} {fd dN dG dE dB2 dD2 dS : FuncData} (G : Fn K mg "do_show" sDoShow ["book", "weights", "bars", "number"] f fd) (B : Bl mg) (R : Pr K mg fW fH fK fB fNB dW dH dK dB dNB) (GNF : Fn K mg "need_few" sNeedF ["book", "weights"] fN dN) (ONF : FnOk P w K mg base CX0 7 fN dN ["book", "weights"] (spNeedF K)) (GBg : Fn K mg "begins_deal" sBegins ["book", "thing"] fG dG) (OBg : FnOk P w K mg base CX0 2 fG dG ["book", "thing"] (spBegins K)) (GBe : Fn K mg "begin_each_deal" sBegEach ["book", "bars"] fE dE) (OBe : FnOk P w K mg base CX0 1 fE dE ["book", "bars"] (spBegEach K))
    (GWb : Fn K mg "weights_behind" sBehind ["book", "weights"] fB2 dB2) (OWb : FnOk P w K mg base CX0 2 fB2 dB2 ["book", "weights"] (spBehind K)) (GWd : Fn K mg "weights_dealt" sWDealt ["hands", "weights", "some"] fD2 dD2) (OWd : FnOk P w K mg base CX0 1 fD2 dD2 ["hands", "weights", "some"] (spWDealt K)) (GSh : Fn K mg "shows" sShows ["behind", "dealt", "number"] fS dS) (OSh : FnOk P w K mg base CX0 1 fS dS ["behind", "dealt", "number"] (spShows K)) : FnOk P w K mg base CX0 8 f fd ["book", "weights", "bars", "number"] (spDoShow K) := by
  have OW : FnOk P w K mg base CX0 1 fW dW ["thing"] (spWhole K) := ok_whole R.W B
  refine G.fn.ok scDoShow (fun vs H Q E h => ?_) (fun cdv A outer s H vs Q E hr h => ?_)
  · obtain ⟨x, n, ws, wp, wt, bp, xs, bars, m, rfl, _⟩ := h
    rfl
  · obtain ⟨x, n, ws, wp, wt, bp, xs, bars, m, rfl, hx, hbk, hw, hwt, hn4, hl7, hbp, tb, hbl, k⟩ := h
    have r1 : Room 1 _ := hr.mono (by decide)
    have r2 : Room 2 _ := hr.mono (by decide)
    have r7 : Room 7 _ := hr
    refine ⟨_, (pss_cons (ps_expr (pe_fn GNF ONF r7 rfl (pa_cons (pv 0) (pa_cons (pv 1) pa_nil))))
    (pss_cons (ps_if (PW.pt (pw_or (pt_not (pt_val (pe_callB call_isi_list rfl B.isinstance b_isi (pa_cons (pv 2) (pa_cons (pe_bltn (v := .ty "list") rfl B.list b_list rfl) pa_nil))))) (pw_or1 (pt_not (pt_val (pe_fn R.W OW r1 rfl (pa_cons (pv 3) pa_nil)))))))
      (pss_one (ps_ret pe_bl))
      pss_nil)
    (pss_cons (ps_if (PW.pt (pw_or (pt_not (pt_val (pe_callB (call_all rfl) rfl B.all b_all (pa_cons (pe_comp (own := ["bar"]) (fr := [0]) (frn := ["book"]) (compOk_of (defScope sDoShow) ["book", "weights", "bars", "number", "rows"] rfl rfl (by decide +kernel)) rfl (pi_list (pv 2))
        (fun _ _ _ _ => (pg_name (i := 0) (show (["bar", "book"] : List Str).Nodup by decide +kernel) rfl (Or.inl rfl))) (fun _ _ _ _ => pf_nil)
        (fun _ _ _ _ => (pe_fn GBg OBg r2 rfl (pa_cons (pv 1) (pa_cons (pv 0) pa_nil))))) pa_nil)))) (pw_or1 (pt_not (pt_val (pe_fn GBe OBe r1 rfl (pa_cons (pv 0) (pa_cons (pv 2) pa_nil))))))))
      (pss_one (ps_ret pe_bl))
      pss_nil)
    (pss_cons (ps_set (i := 4) scDoShow.nd rfl (Or.inr rfl) (pe_fn GWb OWb r2 rfl (pa_cons (pv 0) (pa_cons (pv 1) pa_nil))))
    (pss_one (ps_ret (pe_callB (call_all rfl) rfl B.all b_all (pa_cons (pe_comp (own := ["bar"]) (fr := [0, 3, 4, 1]) (frn := ["book", "number", "rows", "weights"]) (compOk_of (defScope sDoShow) ["book", "weights", "bars", "number", "rows"] rfl rfl (by decide +kernel)) rfl (pi_list (pv 2))
        (fun _ _ _ _ => (pg_name (i := 0) (show (["bar", "book", "number", "rows", "weights"] : List Str).Nodup by decide +kernel) rfl (Or.inl rfl))) (fun _ _ _ _ => pf_nil)
        (fun _ _ _ _ => (pe_fn GSh OSh r1 rfl (pa_cons (pe_ix (ix_listK (K := K) rfl) (pv 3) (pe_callB (call_len_seqK (K := K) rfl) rfl B.len b_len (pa_cons (pv 0) pa_nil)) (fun _ _ => rfl)) (pa_cons (pe_fn GWd OWd r1 rfl (pa_cons (pe_ix (ix_tupK (K := K) rfl) (pv 1) pe_int (fun _ _ => rfl)) (pa_cons (pv 4) (pa_cons (pv 0) pa_nil)))) (pa_cons (pv 2) pa_nil)))))) pa_nil)))))))), ?_⟩
    obtain ⟨hn1, hn6, h12, hwk⟩ := book_parts hbk
    have hxl := tb.1
    refine ⟨_, rfl, _, rfl, x, n, ws, wp, wt, rfl, hx, hbk, hw, hwt, hn4, hl7, fun H1 s1 => ?_⟩
    have hbp1 := s1 _ _ hbp
    have hden : Den K H1 (.list (bars.map dealD)) (.ref bp) := den_list.mpr ⟨bp, xs, rfl, SqL.of hbp1, (tb.same s1).den⟩
    refine ⟨_, rfl, .ref bp, _, rfl, hden.kd, _, rfl, ?_⟩
    refine iteF ?_
    refine ⟨_, rfl, .int m, .int m, rfl, den_int.mpr rfl, _, rfl, ?_⟩
    refine iteF ?_
    refine ⟨_, rfl, bp, rfl, ⟨_, SqL.of hbp1⟩, comp_list (K := K) (a := bp) (xs := xs) (fun σ => ∃ v, σ = [v, some x]) (fun i ys H2 => Same H1 H2 ∧ ys = ((bars.take i).map (begW ws)).map V.bl) (by rw [sizeLine_eq]; omega) ⟨none, rfl⟩ ⟨Same.refl _, rfl⟩ ?_ (fun i ys H2 ⟨s2, _⟩ => s2.seqL (SqL.of hbp1)) ?_ ?_⟩
    · rintro i ys H2 ⟨_, rfl⟩
      rw [List.length_map, List.length_map, List.length_take]
      exact Nat.min_le_left _ _
    · rintro i ys σ u H2 hu ⟨v, rfl⟩ ⟨s2, rfl⟩ hz
      obtain ⟨b, hb, p, rfl, hp⟩ := tb.2 i u hu
      refine ⟨_, rfl, _, rfl, x, n, ws, p, b, rfl, (s1.trans s2).den _ _ hx, hbk, SqT.of ((s1.trans s2) _ _ hp), fun H3 s3 => ⟨hz, ⟨_, rfl⟩, s2.trans s3, ?_⟩⟩
      rw [List.take_add_one, hb, List.map_append, List.map_append]
      rfl
    rintro ys H2 ⟨s2, rfl⟩ p2 hp2
    rw [hxl, List.take_length]
    have s3 := Same.new (o := .lst ((bars.map (begW ws)).map V.bl)) hp2
    have e3 : upd H2 p2 (.lst ((bars.map (begW ws)).map V.bl)) p2 = some (.lst ((bars.map (begW ws)).map V.bl)) := upd_same
    generalize upd H2 p2 (.lst ((bars.map (begW ws)).map V.bl)) = H3 at s3 e3 ⊢
    have s03 := s1.trans (s2.trans s3)
    refine ⟨p2, bars.map (begW ws), rfl, SqL.of e3, _, rfl, ?_⟩
    have eall : (bars.map (begW ws)).all id = bars.all (begW ws) := by rw [List.all_map]; rfl
    rw [eall]
    cases q1 : bars.all (begW ws) with
    | false =>
      refine iteT ?_
      have e : doShowW n ws wt bars m = false := by unfold doShowW; rw [q1]; rfl
      rw [← e]
      exact k _ s03
    | true =>
      refine iteF ?_
      have hbeg : ∀ b ∈ bars, begW ws b = true := fun b hb => List.all_eq_true.mp q1 b hb
      refine ⟨_, rfl, _, rfl, x, n, ws, bp, xs, bars, rfl, s03.den _ _ hx, hbk, hn4, hl7, s03 _ _ hbp, tb.same s03, hbl, fun H4 s4 => ⟨_, rfl, ?_⟩⟩
      have s04 := s03.trans s4
      cases q2 : (freeW bars ws).isEmpty with
      | false =>
        refine iteT ?_
        have e : doShowW n ws wt bars m = false := by unfold doShowW; rw [q1, q2]; rfl
        rw [← e]
        exact k _ s04
      | true =>
        refine iteF ?_
        refine ⟨_, rfl, _, rfl, x, n, ws, wp, wt, rfl, s04.den _ _ hx, hbk, s04.seqT hw, hwt, fun rp H5 s5 hrp => ?_⟩
        have s05 := s04.trans s5
        obtain ⟨rp', rs, e, hrs, hrd⟩ := den_list.mp hrp
        cases e
        obtain ⟨c, bb, ys2, e, hc, hb1, hys1⟩ := den_book (s05.den _ _ hx)
        cases e
        dsimp only [gName]
        refine ⟨_, rfl, bp, rfl, ⟨_, SqL.of (s05 _ _ hbp)⟩, comp_list (K := K) (a := bp) (xs := xs) (fun σ => ∃ v, σ = [v, some (.ref c), some (.int m), some (.ref rp), some (.ref wp)]) (fun i ys H6 => Same H5 H6 ∧ ys = ((bars.take i).map fun b => showsW n ws wt b m).map V.bl) (by rw [sizeLine_eq]; omega) ⟨none, rfl⟩ ⟨Same.refl _, rfl⟩ ?_ (fun i ys H6 ⟨s6, _⟩ => s6.seqL (SqL.of (s05 _ _ hbp))) ?_ ?_⟩
        · rintro i ys H6 ⟨_, rfl⟩
          rw [List.length_map, List.length_map, List.length_take]
          exact Nat.min_le_left _ _
        · rintro i ys σ u H6 hu ⟨v, rfl⟩ ⟨s6, rfl⟩ hz
          obtain ⟨b, hb, p, rfl, hp⟩ := tb.2 i u hu
          have hbb := hbeg b (List.mem_of_getElem? hb)
          have hbl2 := begW_len ws b hbb
          have s06 := s05.trans s6
          have hp6 := s06 _ _ hp
          obtain ⟨rw5, hr5, hrd5⟩ := denAll_get (s6.denAll _ _ hrd) (i := b.length) (d := rowD n ws wt b.length) (by rw [List.getElem?_map, List.getElem?_range (by omega)]; rfl)
          refine ⟨_, rfl, _, rfl, p, _, rfl, .inr (SqT.of hp6), rp, rs, _, rw5, rfl, rfl, s6.seqL hrs, by rw [List.length_map]; exact atI_nat hr5, ?_⟩
          refine ⟨_, rfl, c, _, 0, .int n, rfl, rfl, s6.seqT hc, rfl, _, rfl, _, rfl, n, wp, p, wt, b, rfl, s06.seqT hw, SqT.of hp6, hn1, hn6, begW_range hwk hbb, fun dp H7 s7 hdp => ?_⟩
          refine ⟨_, rfl, rw5, dp, (setsW (upto n.toNat)).map fun s => (s, bhW s (ws.drop b.length) (wt.drop b.length)), dealtW n wt b, m, rfl, ?_, SqT.of hdp, ?_, ?_, dealt_bound hwt h12, fun H8 s8 => ?_⟩
          · rw [List.map_map]
            exact s7.den _ _ hrd5
          · rw [List.length_map]
            have := setsW_len (upto n.toNat)
            have h2 := pow2_le (m := (upto n.toNat).length) (n := 6) (by rw [upto_length]; omega)
            omega
          · intro p hp
            obtain ⟨t, ht, rfl⟩ := List.mem_map.mp hp
            have h1 := setsW_short _ t ht
            rw [upto_length] at h1
            refine ⟨show t.length ≤ 6 by omega, fun h hh => ?_⟩
            have h2 := upto_mem.mp (setsW_in _ t ht h hh)
            rw [dealtW_len]
            exact h2
          · rw [shows_eqW]
            refine ⟨hz, ⟨_, rfl⟩, s6.trans (s7.trans s8), ?_⟩
            rw [List.take_add_one, hb, List.map_append, List.map_append]
            rfl
        · rintro ys H6 ⟨s6, rfl⟩ pn hpn
          rw [hxl, List.take_length]
          refine ⟨pn, bars.map fun b => showsW n ws wt b m, rfl, SqL.of upd_same, ?_⟩
          have e : (bars.map fun b => showsW n ws wt b m).all id = doShowW n ws wt bars m := by unfold doShowW; rw [q1, q2, List.all_map]; rfl
          rw [e]
          exact k _ (s05.trans (s6.trans (Same.new hpn)))
end
end Ab
set_option Elab.async false
set_option linter.all false
set_option maxRecDepth 100000
namespace Ab
open PySem L2
theorem upto_snoc (n : Nat) : upto (n + 1) = upto n ++ [(n : Int)] := by unfold upto; rw [List.range_succ, List.map_append]; rfl
theorem bhW_take {s : List Int} : ∀ (ws : List (List Int)) (wt : List Int) (j : Nat) (l : List Int) (w : Int), ws[j]? = some l → wt[j]? = some w → bhW s (ws.take (j + 1)) (wt.take (j + 1)) = bhW s (ws.take j) (wt.take j) + (if withinW s l = true then w else 0)
  | [], _, _, _, _, h, _ => by cases h
  | _ :: _, [], _, _, _, _, h => by cases h
  | l0 :: ws, v :: wt, 0, l, w, h1, h2 => by
    have e1 : l0 = l := Option.some.inj h1
    have e2 : v = w := Option.some.inj h2
    subst e1 e2
    show (if withinW s l0 = true then v else 0) + bhW s [] [] = bhW s [] [] + _
    rw [bhW_nil]; omega
  | l0 :: ws, v :: wt, j + 1, l, w, h1, h2 => by
    show (if withinW s l0 = true then v else 0) + bhW s (ws.take (j + 1)) (wt.take (j + 1)) = (if withinW s l0 = true then v else 0) + bhW s (ws.take j) (wt.take j) + _
    rw [bhW_take ws wt j l w h1 h2]
    omega
theorem within_nil (s l : List Int) : decide ((l.filter fun h => !decide (h ∈ s)) = []) = withinW s l := by
  unfold withinW
  rw [Bool.eq_iff_iff, decide_eq_true_iff, List.filter_eq_nil_iff, List.all_eq_true]
  constructor
  · intro h x hx
    have := h x hx
    simpa using this
  · intro h x hx
    have := h x hx
    simpa using this
section
variable {P : Program} {w : World} {K : PySem.W.Frag} {mg : Str → Option Value} {base : Heap}
variable {fW fH fK fB fNB : Addr} {dW dH dK dB dNB : FuncData}
def spAWt (K : PySem.W.Frag) : Sp := fun vs H Q _ => ∃ (t a : Addr) (ns : List Int) (m : Nat), vs = [.ref t, .int m] ∧ Tape K H t a ns ∧ m ≤ 12 ∧ ∀ (wt : List Int) p H', wt.length = m → (∀ w ∈ wt, 0 ≤ w ∧ w ≤ 99) → But t H H' → Tape K H' t a ns → SqT K H' p (wt.map V.int) → Q (.ref p) H'
theorem scAWt : FnScope ["tape", "many", "way"] ["tape", "many"] (defScope sAWt) := ⟨rfl, rfl, rfl, by decide +kernel, rfl, by decide +kernel, by decide +kernel⟩
theorem ok_awt {f fD : Addr} {fd dD : FuncData} (G : Fn K mg "_law_aweights" sAWt ["tape", "many"] f fd) (B : Bl mg) (GD : Fn K mg "_law_adigit" sADigit ["tape", "many"] fD dD) (OD : FnOk P w K mg base CX0 1 fD dD ["tape", "many"] (spDigit K)) : FnOk P w K mg base CX0 2 f fd ["tape", "many"] (spAWt K) := by
  refine G.fn.ok scAWt (fun vs H Q E h => ?_) (fun cdv A outer s H vs Q E hr h => ?_)
  · obtain ⟨t, a, ns, m, rfl, _⟩ := h
    rfl
  · obtain ⟨t, a, ns, m, rfl, hT, hm, k⟩ := h
    have r1 : Room 1 _ := hr
    refine ⟨_, (pss_cons (ps_set (i := 2) scAWt.nd rfl (Or.inr rfl) (pe_fn GD OD r1 rfl (pa_cons (pv 0) (pa_cons pe_int pa_nil))))
    (pss_cons (ps_if (pt_cmpR op_eq (pv 2) pe_int (nomark _))
      (pss_one (ps_ret (pe_op (op_repN (K := K) rfl) (pe_tup (pa_cons pe_int pa_nil)) (pv 1))))
      pss_nil)
    (pss_one (ps_ret (pe_callTy call_tuple_of rfl B.tuple b_tuple (pa_cons (pe_comp (own := ["k"]) (fr := [0, 2]) (frn := ["tape", "way"]) (compOk_of (defScope sAWt) ["tape", "many", "way"] rfl rfl (by decide +kernel)) rfl (pi_range1 rfl B.range (pa_cons (pv 1) pa_nil))
        (fun _ _ _ _ => (pg_name (i := 0) (show (["k", "tape", "way"] : List Str).Nodup by decide +kernel) rfl (Or.inl rfl))) (fun _ _ _ _ => pf_nil)
        (fun _ _ _ _ => (pe_fn GD OD r1 rfl (pa_cons (pv 1) (pa_cons (pe_ix (ix_listK (K := K) rfl) (pe_lst (pa_cons pe_int (pa_cons pe_int (pa_cons pe_int pa_nil)))) (pe_op op_sub (pv 2) pe_int) (fun _ _ => rfl)) pa_nil))))) pa_nil)))))), ?_⟩
    refine ⟨_, rfl, t, a, ns, 4, rfl, hT, by decide, by decide, fun wy H1 hw0 hw1 b1 T1 => ?_⟩
    dsimp only [gName]
    refine ⟨_, rfl, rfl, _, rfl, ?_⟩
    refine ite2 (fun c0 => ?_) (fun c0 => ?_)
    · refine ⟨sz1 _, fun p0 h0 => ⟨_, rfl, p0, m, _, rfl, rfl, SqT.of upd_same, by omega, by show 1 ≤ 1000; decide, fun q H2 s2 hq => ?_⟩⟩
      have s3 := (Same.new (o := .tup [.int 1]) h0).trans s2
      refine k (List.replicate m 1) q H2 (by simp) (fun w hw => by rw [List.eq_of_mem_replicate hw]; decide) (b1.trans (But.of s3)) (T1.same s3) ?_
      have e : ∀ m : Nat, (List.replicate m [V.int 1]).flatten = (List.replicate m (1 : Int)).map V.int := fun m => by
        induction m with
        | zero => rfl
        | succ m ih => rw [List.replicate_succ, List.flatten_cons, ih, List.replicate_succ]; rfl
      rw [← e m]
      exact hq
    · have hw3 : 1 ≤ wy := by
        by_cases z : wy = 0
        · exact absurd (by rw [z]; rfl) c0
        · omega
      refine ⟨_, rfl, m, rfl, by omega, by omega, comp_range (lo := 0) (n := ((m : Int)).toNat) (fun σ => ∃ v, σ = [v, some (.ref t), some (.int wy)]) (fun i ys H2 => ∃ l : List Int, ys = l.map V.int ∧ l.length = i ∧ (∀ w ∈ l, 0 ≤ w ∧ w ≤ 99) ∧ But t H1 H2 ∧ Tape K H2 t a ns) (size1 (by omega)) ⟨none, rfl⟩ ⟨[], rfl, rfl, fun _ h => (List.not_mem_nil h).elim, But.refl _ _, T1⟩ ?_ ?_ ?_⟩
      · rintro i ys H2 ⟨l, rfl, hl, _⟩
        rw [List.length_map, hl]; exact Nat.le_refl _
      · rintro i ys σ H2 hi ⟨v, rfl⟩ ⟨l, rfl, hl, hl2, b2, T2⟩ hz
        refine ⟨_, rfl, size1 (show 3 ≤ 1000 by decide), fun lp hlp => ?_⟩
        obtain ⟨M, hM, hM0, hM1⟩ : ∃ M : Int, atI [V.int 3, V.int 10, V.int 100] (wy - 1) = some (.int M) ∧ 0 < M ∧ M ≤ 100 := by
          have : wy = 1 ∨ wy = 2 ∨ wy = 3 := by omega
          rcases this with rfl | rfl | rfl
          · exact ⟨3, rfl, by decide, by decide⟩
          · exact ⟨10, rfl, by decide, by decide⟩
          · exact ⟨100, rfl, by decide, by decide⟩
        have s3 := Same.new (o := .lst [V.int 3, V.int 10, V.int 100]) hlp
        refine ⟨_, rfl, _, _, rfl, rfl, lp, _, _, _, rfl, rfl, SqL.of upd_same, hM, t, a, ns, M, rfl, T2.same s3, hM0, by omega, fun r H4 hr0 hr1 b4 T4 => ?_⟩
        refine ⟨hz, ⟨_, rfl⟩, l ++ [r], by simp, by simp [hl], fun w hw => ?_, b2.trans ((But.of s3).trans b4), T4⟩
        rcases List.mem_append.mp hw with hw | hw
        · exact hl2 w hw
        · rw [List.mem_singleton.mp hw]; omega
      · rintro ys H2 ⟨l, rfl, hl, hl2, b2, T2⟩ lp hlp
        refine ⟨lp, _, rfl, .inl ⟨SqL.of upd_same, fun q hq => ?_⟩⟩
        have s3 := (Same.new (o := .lst (l.map V.int)) hlp).trans (Same.new (o := .tup (l.map V.int)) hq)
        exact k l q _ (by omega) hl2 (b1.trans (b2.trans (But.of s3))) (T2.same s3) (SqT.of upd_same)
def spASets (K : PySem.W.Frag) : Sp := fun vs H Q _ => ∃ (n : Nat), vs = [.int n] ∧ n ≤ 6 ∧ ∀ p xs H', Same H H' → H p = none → H' p = some (.lst xs) → DenAll K H' ((setsW (upto n)).map workD) xs → Q (.ref p) H'
theorem scASets : FnScope ["n", "found", "hand"] ["n"] (defScope sASets) := ⟨rfl, rfl, rfl, by decide +kernel, rfl, by decide +kernel, by decide +kernel⟩
theorem ok_asets {f : Addr} {fd : FuncData} (G : Fn K mg "_law_asets" sASets ["n"] f fd) (B : Bl mg) : FnOk P w K mg base CX0 1 f fd ["n"] (spASets K) := by
  refine G.fn.ok scASets (fun vs H Q E h => ?_) (fun cdv A outer s H vs Q E hr h => ?_)
  · obtain ⟨n, rfl, _⟩ := h
    rfl
  · obtain ⟨n, rfl, h6, k⟩ := h
    refine ⟨_, (pss_cons (ps_set (i := 1) scASets.nd rfl (Or.inl rfl) (pe_lst (pa_cons (pe_tup pa_nil) pa_nil)))
    (pss_cons (ps_for PassesOwn.never rfl (pi_range1 rfl B.range (pa_cons (pv 0) pa_nil)) (pg_name (i := 2) scASets.nd rfl (Or.inr rfl))
      (pss_one (ps_set (i := 1) scASets.nd rfl (Or.inl rfl) (pe_op op_cat (pv 1) (pe_comp (own := ["some"]) (fr := [2]) (frn := ["hand"]) (compOk_of (defScope sASets) ["n", "found", "hand"] rfl rfl (by decide +kernel)) rfl (pi_list (pv 1))
        (fun _ _ _ _ => (pg_name (i := 0) (show (["some", "hand"] : List Str).Nodup by decide +kernel) rfl (Or.inl rfl))) (fun _ _ _ _ => pf_nil)
        (fun _ _ _ _ => (pe_op (op_cat2K (K := K) rfl) (pv 0) (pe_tup (pa_cons (pv 1) pa_nil)))))))))
    (pss_one (ps_ret (pe_slice sl_list (pv 1) (po_some pe_int) po_none))))), ?_⟩
    refine ⟨size1 (Nat.zero_le _), fun p0 h0 => ⟨sz1 _, fun p1 h1 => ?_⟩⟩
    have s1 := (Same.new (o := .tup []) h0).trans (Same.new (o := .lst [.ref p0]) h1)
    have n1 : H p1 = none := (Same.new (o := .tup []) h0).free h1
    have e1 : upd (upd H p0 (.tup [])) p1 (.lst [.ref p0]) p1 = some (.lst [.ref p0]) := upd_same
    have d1 : DenAll K (upd (upd H p0 (.tup [])) p1 (.lst [.ref p0])) ((allSetsW (upto 0)).map workD) [.ref p0] := denAll_cons.mpr ⟨_, _, rfl, den_tints.mpr ⟨p0, rfl, (Same.new h1).seqT (SqT.of upd_same)⟩, denAll_nil.mpr rfl⟩
    generalize upd (upd H p0 (.tup [])) p1 (.lst [.ref p0]) = H1 at s1 e1 d1 ⊢
    dsimp only [gName]
    refine ⟨_, rfl, n, rfl, by omega, by omega, for_range (lo := 0) (n := ((n : Int)).toNat) (fun i σ H2 => ∃ q xs v, σ = [some (.int n), some (.ref q), v] ∧ Same H H2 ∧ H q = none ∧ H2 q = some (.lst xs) ∧ DenAll K H2 ((allSetsW (upto i)).map workD) xs) ⟨p1, _, none, rfl, s1, n1, e1, d1⟩ ?_ ?_⟩
    · rintro i σ H2 hi ⟨q, xs, v, rfl, s2, nq, hq, hd⟩
      have hxl : xs.length = 2 ^ i := by rw [denAll_length hd, List.length_map, allSetsW_len, upto_length]
      have hx32 : xs.length ≤ 32 := by rw [hxl]; exact pow2_le (n := 5) (by omega)
      refine ⟨_, rfl, _, rfl, q, rfl, ⟨_, SqL.of hq⟩, comp_list (K := K) (a := q) (xs := xs) (fun σ => ∃ v, σ = [v, some (.int (0 + (i : Int)))]) (fun j ys H3 => Same H2 H3 ∧ DenAll K H3 (((allSetsW (upto i)).take j).map fun t => workD (t ++ [(i : Int)])) ys) (size1 (by omega)) ⟨none, rfl⟩ ⟨Same.refl _, denAll_nil.mpr rfl⟩ ?_ (fun j ys H3 ⟨s3, _⟩ => s3.seqL (SqL.of hq)) ?_ ?_⟩
      · rintro j ys H3 ⟨_, hd3⟩
        rw [denAll_length hd3, List.length_map, List.length_take]
        exact Nat.min_le_left _ _
      · rintro j ys σ x H3 hx ⟨v0, rfl⟩ ⟨s3, hd3⟩ hz
        obtain ⟨d, hd1, hd2⟩ := denAll_at (s3.denAll _ _ hd) hx
        rw [List.getElem?_map] at hd1
        obtain ⟨t, ht, rfl⟩ := Option.map_eq_some_iff.mp hd1
        obtain ⟨a, rfl, ha⟩ := den_tints.mp hd2
        have ht5 : t.length ≤ i := by
          have := allSetsW_short _ t (List.mem_of_getElem? ht)
          rw [upto_length] at this
          omega
        refine ⟨_, rfl, _, rfl, sz1 _, fun pt hpt => ⟨a, pt, _, _, rfl, rfl, (Same.new hpt).seqT ha, SqT.of upd_same, size1 (by rw [List.length_map]; show _ + 1 ≤ _; omega), fun pc H4 s4 hpc => ?_⟩⟩
        have s34 := (Same.new (o := .tup [.int (0 + (i : Int))]) hpt).trans s4
        refine ⟨hz, ⟨_, rfl⟩, s3.trans s34, ?_⟩
        rw [List.take_add_one, ht, List.map_append]
        refine denAll_append (s34.denAll _ _ hd3) (denAll_cons.mpr ⟨_, _, rfl, den_tints.mpr ⟨pc, rfl, ?_⟩, denAll_nil.mpr rfl⟩)
        rw [Int.zero_add] at hpc
        rw [List.map_append]
        exact hpc
      · rintro ys H3 ⟨s3, hd3⟩ pn hpn
        have hyl : ys.length ≤ 32 := by
          rw [denAll_length hd3, List.length_map, List.length_take]
          omega
        refine ⟨q, pn, xs, ys, rfl, rfl, (s3.trans (Same.new hpn)) _ _ hq, upd_same, size1 (by omega), fun pr hpr => ?_⟩
        have s35 := s3.trans ((Same.new (o := .lst ys) hpn).trans (Same.new (o := .lst (xs ++ ys)) hpr))
        refine ⟨pr, xs ++ ys, _, rfl, s2.trans s35, (s2.trans (s3.trans (Same.new hpn))).free hpr, upd_same, ?_⟩
        rw [upto_snoc, allSetsW_snoc, List.map_append, List.map_map]
        refine denAll_append (s35.denAll _ _ hd) ?_
        have e : xs.length = (allSetsW (upto i)).length := by rw [denAll_length hd, List.length_map]
        rw [e, List.take_length] at hd3
        exact ((Same.new hpn).trans (Same.new hpr)).denAll _ _ hd3
    · rintro σ H2 ⟨q, xs, v, rfl, s2, nq, hq, hd⟩
      refine ⟨_, rfl, _, rfl, q, xs, rfl, SqL.of hq, fun pr hpr => ?_⟩
      have e : cutV xs (some 1) none = xs.drop 1 := cutV_from xs 1
      rw [e]
      rw [show ((n : Int)).toNat = n by omega, allSetsW_cons, List.map_cons] at hd
      obtain ⟨x, r, rfl, _, hr2⟩ := denAll_cons.mp hd
      exact k pr _ _ (s2.trans (Same.new hpr)) (s2.free hpr) upd_same ((Same.new hpr).denAll _ _ hr2)
def spAHeaps (K : PySem.W.Frag) : Sp := fun vs H Q _ => ∃ (x : V) (wp p : Addr) (n : Int) (ws : List (List Int)) (wt b : List Int), vs = [x, .ref wp, .ref p] ∧ Den K H (bookD n ws) x ∧ isBook (bookD n ws) = true ∧ SqT K H wp (wt.map V.int) ∧ b.length ≤ wt.length ∧ SqT K H p (b.map V.int) ∧ b.length ≤ 100 ∧ (∀ h ∈ b, 0 ≤ h ∧ h < n) ∧ ∀ p H', Same H H' → H p = none → H' p = some (.lst ((dealtW n wt b).map V.int)) → Q (.ref p) H'
theorem scAHeaps : FnScope ["book", "weights", "deal", "found", "at"] ["book", "weights", "deal"] (defScope sAHeaps) := ⟨rfl, rfl, rfl, by decide +kernel, rfl, by decide +kernel, by decide +kernel⟩
theorem ok_aheaps {f : Addr} {fd : FuncData} (G : Fn K mg "_law_aheaps" sAHeaps ["book", "weights", "deal"] f fd) (B : Bl mg) : FnOk P w K mg base CX0 1 f fd ["book", "weights", "deal"] (spAHeaps K) := by
  refine G.fn.ok scAHeaps (fun vs H Q E h => ?_) (fun cdv A outer s H vs Q E hr h => ?_)
  · obtain ⟨x, wp, p, n, ws, wt, b, rfl, _⟩ := h
    rfl
  · obtain ⟨x, wp, p, n, ws, wt, b, rfl, hx, hbk, hw, hbw, hp, hb100, hin, k⟩ := h
    refine ⟨_, (pss_cons (ps_set (i := 3) scAHeaps.nd rfl (Or.inl rfl) (pe_op op_rep (pe_lst (pa_cons pe_int pa_nil)) (pe_ix ix_tup (pv 0) pe_int (fun _ _ => rfl))))
    (pss_cons (ps_for PassesOwn.never rfl (pi_range1 rfl B.range (pa_cons (pe_callB call_len_seq rfl B.len b_len (pa_cons (pv 2) pa_nil)) pa_nil)) (pg_name (i := 4) scAHeaps.nd rfl (Or.inl rfl))
      (pss_one (ps_asg (pe_op op_add (pe_ix ix_list (pv 3) (pe_ix ix_tup (pv 2) (pv 4) (fun _ _ => rfl)) (fun _ _ => rfl)) (pe_ix ix_tup (pv 1) (pv 4) (fun _ _ => rfl))) (pg_sub (pv 3) (pe_ix ix_tup (pv 2) (pv 4) (fun _ _ => rfl)) set_list))))
    (pss_one (ps_ret (pv 3))))), ?_⟩
    obtain ⟨c, bb, ys, e, hc, hb1, hys1⟩ := den_book hx
    cases e
    obtain ⟨hn1, hn6, h12, hwk⟩ := book_parts hbk
    refine ⟨sz1 _, fun p0 h0 => ⟨_, rfl, c, _, 0, .int n, rfl, rfl, (Same.new h0).seqT hc, rfl, p0, n, _, rfl, rfl, upd_same, by omega, by omega, size1 (by show 1 * n.toNat ≤ _; omega), fun tl htl => ?_⟩⟩
    have s1 := (Same.new (o := .lst [.int 0]) h0).trans (Same.new (o := .lst (List.replicate n.toNat [V.int 0]).flatten) htl)
    have ntl : H tl = none := (Same.new (o := .lst [.int 0]) h0).free htl
    have e1 : upd (upd H p0 (.lst [.int 0])) tl (.lst (List.replicate n.toNat [V.int 0]).flatten) tl = some (.lst ((dealtW n wt (b.take 0)).map V.int)) := by
      rw [upd_same]
      congr 2
      unfold dealtW
      rw [List.map_map]
      refine List.ext_getElem? fun j => ?_
      have el : (List.replicate n.toNat [V.int 0]).flatten = List.replicate n.toNat (V.int 0) := by
        have : ∀ m : Nat, (List.replicate m [V.int 0]).flatten = List.replicate m (V.int 0) := fun m => by
          induction m with
          | zero => rfl
          | succ m ih => rw [List.replicate_succ, List.flatten_cons, ih]; rfl
        exact this _
      rw [el, List.getElem?_replicate]
      by_cases hj : j < n.toNat
      · rw [if_pos hj, List.getElem?_map, upto_get hj]
        show _ = some (V.int (dlW _ [] wt))
        rw [dlW_nil]
      · rw [if_neg hj, List.getElem?_eq_none (by rw [List.length_map, upto_length]; omega)]
    generalize upd (upd H p0 (.lst [.int 0])) tl (.lst (List.replicate n.toNat [V.int 0]).flatten) = H1 at s1 e1 ⊢
    dsimp only [gName]
    refine ⟨_, rfl, p, _, rfl, .inr (s1.seqT hp), ?_⟩
    rw [List.length_map]
    refine ⟨b.length, rfl, by omega, by omega, for_range (lo := 0) (n := ((b.length : Int)).toNat) (fun i σ H2 => (∃ v4, σ = [some (.ref c), some (.ref wp), some (.ref p), some (.ref tl), v4]) ∧ Same H H2 ∧ H2 tl = some (.lst ((dealtW n wt (b.take i)).map V.int))) ⟨⟨_, rfl⟩, s1, e1⟩ ?_ ?_⟩
    · rintro i σ H2 hi ⟨⟨v4, rfl⟩, s2, e2⟩
      have hi' : i < b.length := by omega
      have hx2 : b[i]? = some b[i] := List.getElem?_eq_getElem hi'
      have hy2 : wt[i]? = some (wt[i]'(by omega)) := List.getElem?_eq_getElem _
      generalize b[i] = h at hx2
      generalize (wt[i]'(by omega)) = y at hy2
      have hxn := hin h (List.mem_of_getElem? hx2)
      have hci : atI (b.map V.int) (0 + (i : Int)) = some (.int h) := by rw [Int.zero_add]; exact atI_nat (by rw [List.getElem?_map, hx2]; rfl)
      have hwi : atI (wt.map V.int) (0 + (i : Int)) = some (.int y) := by rw [Int.zero_add]; exact atI_nat (by rw [List.getElem?_map, hy2]; rfl)
      have hdi : atI ((dealtW n wt (b.take i)).map V.int) h = some (.int (dlW h (b.take i) wt)) := by
        unfold atI
        rw [ixN_in hxn.1 (by rw [List.length_map, dealtW_len]; omega)]
        show ((dealtW n wt (b.take i)).map V.int)[h.toNat]? = _
        rw [List.getElem?_map, dealtW_at hxn.1 hxn.2]
        rfl
      refine ⟨_, rfl, _, rfl, _, rfl, p, _, _, _, rfl, rfl, s2.seqT hp, hci, tl, _, _, _, rfl, rfl, SqL.of e2, hdi, _, rfl, _, rfl, wp, _, _, _, rfl, rfl, s2.seqT hw, hwi, _, _, rfl, rfl, _, rfl, _, rfl, _, rfl, p, _, _, _, rfl, rfl, s2.seqT hp, hci, tl, _, h, h.toNat, rfl, rfl, e2, ixN_in hxn.1 (by rw [List.length_map, dealtW_len]; omega), ⟨_, rfl⟩, fun b' o q => ?_, ?_⟩
      · rw [upd_ne (fun z => by rw [z, ntl] at q; cases q)]
        exact s2 _ _ q
      · rw [upd_same, ← dealtW_set hxn.1 hxn.2 hx2 hy2, List.map_set]
    · rintro σ H2 ⟨⟨v4, rfl⟩, s2, e2⟩
      rw [show ((b.length : Int)).toNat = b.length by omega, List.take_length] at e2
      exact ⟨_, rfl, k tl _ s2 ntl e2⟩
def spABar (K : PySem.W.Frag) : Sp := fun vs H Q _ => ∃ (x : V) (wp p : Addr) (n : Int) (ws : List (List Int)) (wt b : List Int) (m : Int), vs = [x, .ref wp, .ref p, .int m] ∧ Den K H (bookD n ws) x ∧ isBook (bookD n ws) = true ∧ SqT K H wp (wt.map V.int) ∧ WtOk ws wt ∧ SqT K H p (b.map V.int) ∧ begW ws b = true ∧ ∀ H', Same H H' → Q (.bl (showsW n ws wt b m)) H'
theorem scABar : FnScope ["book", "weights", "begun", "most", "heaps", "some", "much", "at"] ["book", "weights", "begun", "most"] (defScope sABar) := ⟨rfl, rfl, rfl, by decide +kernel, rfl, by decide +kernel, by decide +kernel⟩
set_option maxHeartbeats 4000000 in
theorem ok_abar {f fP fS : Addr} {fd dP dS : FuncData} (G : Fn K mg "_law_abarred" sABar ["book", "weights", "begun", "most"] f fd) (B : Bl mg) (GHp : Fn K mg "_law_aheaps" sAHeaps ["book", "weights", "deal"] fP dP) (OHp : FnOk P w K mg base CX0 1 fP dP ["book", "weights", "deal"] (spAHeaps K)) (GAs : Fn K mg "_law_asets" sASets ["n"] fS dS) (OAs : FnOk P w K mg base CX0 1 fS dS ["n"] (spASets K)) : FnOk P w K mg base CX0 2 f fd ["book", "weights", "begun", "most"] (spABar K) := by
  refine G.fn.ok scABar (fun vs H Q E h => ?_) (fun cdv A outer s H vs Q E hr h => ?_)
  · obtain ⟨x, wp, p, n, ws, wt, b, m, rfl, _⟩ := h
    rfl
  · obtain ⟨x, wp, p, n, ws, wt, b, m, rfl, hx, hbk, hw, hwt, hp, hb, k⟩ := h
    have r1 : Room 1 _ := hr
    refine ⟨_, (pss_cons (ps_set (i := 4) scABar.nd rfl (Or.inr rfl) (pe_fn GHp OHp r1 rfl (pa_cons (pv 0) (pa_cons (pv 1) (pa_cons (pv 2) pa_nil)))))
    (pss_cons (ps_for PassesOwn.never rfl (pi_list (pe_fn GAs OAs r1 rfl (pa_cons (pe_ix ix_tup (pv 0) pe_int (fun _ _ => rfl)) pa_nil))) (pg_name (i := 5) scABar.nd rfl (Or.inr rfl))
      (pss_cons (ps_set (i := 6) scABar.nd rfl (Or.inl rfl) (pe_callB (call_sum rfl) rfl B.sum b_sum (pa_cons (pe_comp (own := ["hand"]) (fr := [4]) (frn := ["heaps"]) (compOk_of (defScope sABar) ["book", "weights", "begun", "most", "heaps", "some", "much", "at"] rfl rfl (by decide +kernel)) rfl (pi_tup (pv 5))
        (fun _ _ _ _ => (pg_name (i := 0) (show (["hand", "heaps"] : List Str).Nodup by decide +kernel) rfl (Or.inl rfl))) (fun _ _ _ _ => pf_nil)
        (fun _ _ _ _ => (pe_ix (ix_listK (K := K) rfl) (pv 1) (pv 0) (fun _ _ => rfl)))) pa_nil)))
    (pss_cons (ps_for PassesOwn.never rfl (pi_range2 rfl B.range (pa_cons (pe_callB call_len_seq rfl B.len b_len (pa_cons (pv 2) pa_nil)) (pa_cons (pe_callB call_len_seq rfl B.len b_len (pa_cons (pe_ix ix_tup (pv 0) pe_int (fun _ _ => rfl)) pa_nil)) pa_nil))) (pg_name (i := 7) scABar.nd rfl (Or.inl rfl))
      (pss_one (ps_if (pt_cmpR (op_eqD hr.u64) (pe_comp (own := ["hand"]) (fr := [5]) (frn := ["some"]) (compOk_of (defScope sABar) ["book", "weights", "begun", "most", "heaps", "some", "much", "at"] rfl rfl (by decide +kernel)) rfl (pi_tup (pe_ix ix_tup (pe_ix ix_tup (pv 0) pe_int (fun _ _ => rfl)) (pv 7) (fun _ _ => rfl)))
        (fun _ _ _ _ => (pg_name (i := 0) (show (["hand", "some"] : List Str).Nodup by decide +kernel) rfl (Or.inl rfl))) (fun _ _ _ _ => pf_one (pt_cmpR (op_notIn_seqK (K := K) rfl) (pv 0) (pv 1) (by with_unfolding_all rfl)))
        (fun _ _ _ _ => (pv 0))) (pe_lst pa_nil) (nomark _))
      (pss_one (ps_set (i := 6) scABar.nd rfl (Or.inl rfl) (pe_op op_add (pv 6) (pe_ix ix_tup (pv 1) (pv 7) (fun _ _ => rfl)))))
      pss_nil)))
    (pss_one (ps_if (pt_cmpR op_gt (pv 6) (pe_op op_mul (pe_callB call_len_seq rfl B.len b_len (pa_cons (pv 5) pa_nil)) (pe_op op_sub (pv 3) pe_int)) (nomark _))
      (pss_one (ps_ret pe_bl))
      pss_nil)))))
    (pss_one (ps_ret pe_bl)))), ?_⟩
    obtain ⟨hn1, hn6, h12, hwk⟩ := book_parts hbk
    have hbl := begW_len ws b hb
    have hwl := hwt.1
    refine ⟨_, rfl, _, rfl, _, rfl, x, wp, p, n, ws, wt, b, rfl, hx, hbk, hw, by omega, hp, by omega, begW_range hwk hb, fun hp2 H1 s1 nh hh => ?_⟩
    obtain ⟨c, bb, ys, e, hc, hb1, hys1⟩ := den_book (s1.den _ _ hx)
    cases e
    have hly := denAll_length hys1
    rw [List.length_map] at hly
    dsimp only [gName]
    refine ⟨_, rfl, c, _, 0, .int n, rfl, rfl, hc, rfl, n.toNat, by rw [show ((n.toNat : Nat) : Int) = n by omega]; rfl, by omega, fun sp xs H2 s2 nsp hsp hd => ?_⟩
    have s12 := s1.trans s2
    have hxl : xs.length = (setsW (upto n.toNat)).length := by rw [denAll_length hd, List.length_map]
    refine ⟨sp, rfl, ⟨_, SqL.of hsp⟩, for_list (K := K) (a := sp) (xs := xs) (fun i σ H3 => (∃ v5 v6 v7, σ = [some (.ref c), some (.ref wp), some (.ref p), some (.int m), some (.ref hp2), v5, v6, v7]) ∧ Same H2 H3 ∧ ∀ t ∈ (setsW (upto n.toNat)).take i, ¬ ((t.length : Int) * (m - 1) < sumTo (t.map fun h => dlW h b wt) + bhW t (ws.drop b.length) (wt.drop b.length))) ⟨⟨_, _, _, rfl⟩, Same.refl _, fun t ht => by rw [List.take_zero] at ht; exact (List.not_mem_nil ht).elim⟩ (fun i σ H3 _ ⟨_, s3, _⟩ => s3.seqL (SqL.of hsp)) ?_ ?_⟩
    · rintro i u σ H3 hu ⟨⟨v5, v6, v7, rfl⟩, s3, hno⟩
      obtain ⟨d, hd1, hd2⟩ := denAll_at (s3.denAll _ _ hd) hu
      rw [List.getElem?_map] at hd1
      obtain ⟨t, ht, rfl⟩ := Option.map_eq_some_iff.mp hd1
      obtain ⟨q, rfl, hq⟩ := den_tints.mp hd2
      have htm := List.mem_of_getElem? ht
      have htl := setsW_short _ t htm
      rw [upto_length] at htl
      have s23 := s2.trans s3
      have hh3 := s23 _ _ hh
      refine ⟨_, rfl, q, rfl, ⟨_, hq⟩, comp_fnT (K := K) (a := q) (xs := t.map V.int) (vs := (t.map fun h => dlW h b wt).map V.int) (fun σ => ∃ v, σ = [v, some (.ref hp2)]) (by rw [List.length_map]; omega) (by simp) hq ⟨none, rfl⟩ ?_ ?_⟩
      · rintro j y z σ H4 hy hz ⟨v0, rfl⟩ s4 Q2 k2
        rw [List.getElem?_map] at hy
        obtain ⟨h, hh', rfl⟩ := Option.map_eq_some_iff.mp hy
        rw [List.getElem?_map, List.getElem?_map, hh'] at hz
        cases hz
        have hbd := upto_mem.mp (setsW_in _ t htm h (List.mem_of_getElem? hh'))
        refine ⟨_, rfl, _, rfl, hp2, _, h, .int (dlW h b wt), rfl, rfl, SqL.of (s4 _ _ hh3), ?_, k2 _ _ ⟨_, rfl⟩ (Same.refl _)⟩
        unfold atI
        rw [ixN_in hbd.1 (by rw [List.length_map, dealtW_len]; exact hbd.2)]
        show ((dealtW n wt b).map V.int)[h.toNat]? = _
        rw [List.getElem?_map, dealtW_at hbd.1 (by omega)]
        rfl
      intro H4 s4 pn hpn
      refine ⟨pn, _, rfl, SqL.of upd_same, fun v hv => ?_, by rw [List.length_map]; omega, ?_⟩
      · obtain ⟨h, hh', rfl⟩ := List.mem_map.mp hv
        exact dealt_bound hwt h12 _ (List.mem_map.mpr ⟨h, setsW_in _ t htm h hh', rfl⟩)
      have s5 := s4.trans (Same.new (o := .lst ((t.map fun h => dlW h b wt).map V.int)) hpn)
      generalize upd H4 pn (.lst ((t.map fun h => dlW h b wt).map V.int)) = H5 at s5 ⊢
      dsimp only [gName]
      have s35 := s3.trans s5
      have s15 := s2.trans s35
      refine ⟨_, rfl, p, _, rfl, .inr ((s1.trans s15).seqT hp), _, rfl, c, _, 1, .ref bb, rfl, rfl, s15.seqT hc, rfl, bb, ys, rfl, .inr (s15.seqT hb1), ?_⟩
      rw [List.length_map, hly]
      have hlo : (0 : Int) ≤ b.length := by omega
      refine ⟨b.length, ws.length, rfl, ⟨by omega, by omega, by omega, by omega⟩, for_range (lo := b.length) (n := ((ws.length : Int) - b.length).toNat) (fun j σ H6 => (∃ v7, σ = [some (.ref c), some (.ref wp), some (.ref p), some (.int m), some (.ref hp2), some (.ref q), some (.int (sumTo (t.map fun h => dlW h b wt) + bhW t ((ws.drop b.length).take j) ((wt.drop b.length).take j))), v7]) ∧ Same H5 H6) ⟨⟨_, by rw [List.take_zero, bhW_nil, Int.add_zero]; rfl⟩, Same.refl _⟩ ?_ ?_⟩
      · rintro j σ H6 hj ⟨⟨v7, rfl⟩, s6⟩
        have hjl : b.length + j < ws.length := by omega
        have hl : ws[b.length + j]? = some ws[b.length + j] := List.getElem?_eq_getElem hjl
        have hlm := List.getElem_mem hjl
        generalize ws[b.length + j] = l at hl hlm
        have hy2 : wt[b.length + j]? = some (wt[b.length + j]'(by omega)) := List.getElem?_eq_getElem _
        generalize (wt[b.length + j]'(by omega)) = y at hy2
        obtain ⟨hl0, hl1, hl2⟩ := work_parts (hwk l hlm)
        have hl6 := work_short (by omega) hl1 hl2
        have s16 := s15.trans s6
        obtain ⟨u, hu2, hdu⟩ := denAll_get (s16.denAll _ _ hys1) (i := b.length + j) (d := workD l) (by rw [List.getElem?_map, hl]; rfl)
        obtain ⟨la, rfl, hla⟩ := den_tints.mp hdu
        have hcast : ((b.length : Int) + (j : Int)) = ((b.length + j : Nat) : Int) := by omega
        refine ⟨_, rfl, c, _, 1, .ref bb, rfl, rfl, s16.seqT hc, rfl, _, rfl, bb, ys, _, .ref la, rfl, rfl, s16.seqT hb1, by rw [hcast]; exact atI_nat hu2, la, rfl, ⟨_, hla⟩, comp_tup (K := K) (a := la) (xs := l.map V.int) (fun σ => ∃ v, σ = [v, some (.ref q)]) (fun e zs H7 => H7 = H6 ∧ zs = ((l.take e).filter fun h => !decide (h ∈ t)).map V.int) (size1 (by rw [List.length_map]; omega)) ⟨none, rfl⟩ ⟨rfl, rfl⟩ ?_ (fun e zs H7 h => by rw [h.1]; exact hla) ?_ ?_⟩
        · rintro e zs H7 ⟨_, rfl⟩
          rw [List.length_map]
          exact Nat.le_trans (List.length_filter_le _ _) (by rw [List.length_take]; exact Nat.min_le_left _ _)
        · rintro e zs σ z H7 hz7 ⟨v, rfl⟩ ⟨rfl, rfl⟩ hz
          rw [List.getElem?_map] at hz7
          obtain ⟨h, hh', rfl⟩ := Option.map_eq_some_iff.mp hz7
          refine ⟨_, rfl, _, rfl, q, t.map V.int, rfl, .inr ((s5.trans s6).seqT hq), rfl, flat_ints _, _, rfl, ?_⟩
          show if (!inV (.int h) (t.map V.int)) = true then _ else _
          rw [in_memI]
          have htk : (l.take (e + 1)).filter (fun h => !decide (h ∈ t)) = (l.take e).filter (fun h => !decide (h ∈ t)) ++ (if (!decide (h ∈ t)) = true then [h] else []) := by
            rw [List.take_add_one, hh', List.filter_append]
            congr 1
            show List.filter _ [h] = _
            rw [List.filter_cons]
            rfl
          refine ite2 (fun c0 => ?_) (fun c0 => ?_)
          · refine ⟨_, rfl, hz, ⟨_, rfl⟩, rfl, ?_⟩
            rw [htk, if_pos c0, List.map_append]
            rfl
          · refine ⟨⟨_, rfl⟩, rfl, ?_⟩
            rw [htk, if_neg c0, List.append_nil]
        · rintro zs H7 ⟨rfl, rfl⟩ lp hlp
          rw [List.length_map, List.take_length]
          have s8 := Same.new (o := .lst ((l.filter fun h => !decide (h ∈ t)).map V.int)) hlp
          have e8 : upd H7 lp (.lst ((l.filter fun h => !decide (h ∈ t)).map V.int)) lp = some (.lst ((l.filter fun h => !decide (h ∈ t)).map V.int)) := upd_same
          generalize upd H7 lp (.lst ((l.filter fun h => !decide (h ∈ t)).map V.int)) = H8 at s8 e8 ⊢
          refine ⟨size1 (Nat.zero_le _), fun zp hzp => ?_⟩
          have s9 := Same.new (o := .lst []) hzp
          refine ⟨.list ((l.filter fun h => !decide (h ∈ t)).map .int), .list (([] : List Int).map .int), den_lints.mpr ⟨lp, rfl, s9.seqL (SqL.of e8)⟩, den_lints.mpr ⟨zp, rfl, SqL.of upd_same⟩, noDict_ints _, noDict_ints _, shaped_ints _, shaped_ints _, _, rfl, ?_⟩
          rw [eqv_lints, within_nil]
          have s69 := s8.trans s9
          generalize upd H8 zp (.lst []) = H9 at s9 s69 ⊢
          have hbt := bhW_take (s := t) (ws.drop b.length) (wt.drop b.length) j l y (by rw [List.getElem?_drop]; exact hl) (by rw [List.getElem?_drop]; exact hy2)
          refine ite2 (fun c0 => ?_) (fun c0 => ?_)
          · refine ⟨_, rfl, _, rfl, _, rfl, wp, _, _, _, rfl, rfl, (s1.trans (s16.trans s69)).seqT hw, by rw [hcast]; exact atI_nat (by rw [List.getElem?_map, hy2]; rfl), _, _, rfl, rfl, ⟨some (.int ((b.length : Int) + (j : Int))), ?_⟩, s6.trans s69⟩
            rw [hbt, if_pos c0, ← Int.add_assoc]
            rfl
          · refine ⟨⟨some (.int ((b.length : Int) + (j : Int))), ?_⟩, s6.trans s69⟩
            rw [hbt, if_neg c0, Int.add_zero]
            rfl
      · rintro σ H6 ⟨⟨v7, rfl⟩, s6⟩
        have e1 : (ws.drop b.length).take ((ws.length : Int) - b.length).toNat = ws.drop b.length := List.take_of_length_le (by rw [List.length_drop]; omega)
        have e2 : (wt.drop b.length).take ((ws.length : Int) - b.length).toNat = wt.drop b.length := List.take_of_length_le (by rw [List.length_drop]; omega)
        rw [e1, e2]
        have s56 := s5.trans s6
        refine ⟨_, rfl, _, rfl, q, _, rfl, .inr (s56.seqT hq), _, rfl, _, _, rfl, rfl, _, _, rfl, rfl, .inl ⟨by rw [List.length_map]; omega, by rw [List.length_map]; omega⟩, _, _, rfl, rfl, _, rfl, ?_⟩
        rw [List.length_map]
        refine ite2 (fun c0 => ?_) (fun c0 => ?_)
        · have e : showsW n ws wt b m = true := by
            unfold showsW
            rw [List.any_eq_true]
            exact ⟨t, htm, c0⟩
          rw [← e]
          exact k _ (s12.trans (s3.trans s56))
        · refine ⟨⟨_, _, _, rfl⟩, s3.trans s56, fun t' ht' => ?_⟩
          rw [List.take_add_one, ht] at ht'
          rcases List.mem_append.mp ht' with ht' | ht'
          · exact hno t' ht'
          · rw [List.mem_singleton.mp ht']
            exact fun z => c0 (decide_eq_true z)
    · rintro σ H3 ⟨⟨v5, v6, v7, rfl⟩, s3, hno⟩
      rw [hxl, List.take_length] at hno
      have e : showsW n ws wt b m = false := by
        unfold showsW
        rw [List.any_eq_false]
        intro t ht hx
        exact hno t ht (of_decide_eq_true hx)
      rw [← e]
      exact k _ (s12.trans s3)
end
end Ab
set_option Elab.async false
set_option linter.all false
set_option maxRecDepth 100000
namespace Ab
open PySem L2
section
variable {X : Cx}
open Classical in
noncomputable def hitT (H : Hp) (b : List Int) (u : Value) : Bool := match u with
  | .ref a => decide (H a = some (.tup (b.map V.int)))
  | _ => false
theorem map_int_inj {a b : List Int} (h : a.map V.int = b.map V.int) : a = b := by
  have := congrArg (List.map fun v => match v with | V.int i => i | _ => 0) h
  simpa [List.map_map, Function.comp_def] using this
open Classical in
theorem hitT_of {H : Hp} {b l : List Int} {a : Addr} (ha : H a = some (.tup (l.map V.int))) : hitT H b (.ref a) = decide (l = b) := by
  by_cases c : l = b
  · rw [decide_eq_true c]
    exact decide_eq_true (by rw [ha, c])
  · rw [decide_eq_false c]
    refine decide_eq_false fun z => c ?_
    rw [ha] at z
    injection z with z
    injection z with z
    exact map_int_inj z
def rInT : R2 := fun x y H Q => ∃ (p q : Addr) (xs : List V) (bars : List (List Int)) (b : List Int), x = .ref p ∧ y = .ref q ∧ H q = some (.lst xs) ∧ Tk H bars xs ∧ H p = some (.tup (b.map V.int)) ∧ Q (.bl (decide (b ∈ bars))) H
theorem op_inT (hu : X.A.units + 64 < cLine) : OpR X (compareOp .In) rInT := by
  intro pins s σ H x y v u Q I rx ry h
  obtain ⟨p, q, xs, bars, b, rfl, rfl, hq, tk, hp, k⟩ := h
  cases rx
  cases ry
  obtain ⟨its, r, pl, hz⟩ := I.list (SqL.of hq)
  obtain ⟨as, ra⟩ := Den.reads I (.tuple (b.map .int)) (.ref p) (.ref p) (noDict_tints b) (den_tints.mpr ⟨p, rfl, SqT.of hp⟩) rfl
  have key : ∀ (i : Nat) (u : Value), its[i]? = some u → ∃ l, bars[i]? = some l ∧ SeqAt.EqAt X.A.in1 s u (.ref p) (hitT H b u) ∧ hitT H b u = decide (l = b) := by
    intro i u hi
    have hlx : i < xs.length := by rw [r.length]; exact (List.getElem?_eq_some_iff.mp hi).1
    have hz1 : xs[i]? = some xs[i] := List.getElem?_eq_getElem hlx
    obtain ⟨u', hu', rz⟩ := r.get hz1
    rw [hi] at hu'
    cases hu'
    generalize xs[i] = z at hz1 rz
    obtain ⟨l, hl, a, rfl, ha⟩ := tk.2 i z hz1
    cases rz
    obtain ⟨bs, rb⟩ := Den.reads I (.tuple (l.map .int)) (.ref a) (.ref a) (noDict_tints l) (den_tints.mpr ⟨a, rfl, SqT.of ha⟩) rfl
    have e : hitT H b (.ref a) = decide (l = b) := hitT_of ha
    refine ⟨l, hl, ?_, e⟩
    rw [e, ← eqv_tints]
    refine SeqAt.eqAt_reads _ _ _ s _ _ bs as rb ra (canLay_tints l) (canLay_tints b) ?_
    have h1 := depth_tints l
    have h2 : min (PyData.tuple (l.map .int)).depth (PyData.tuple (b.map .int)).depth ≤ (PyData.tuple (l.map .int)).depth := Nat.min_le_left _ _
    show X.A.units + 1 + _ < cLine
    omega
  refine SeqAt.in_listAt (hitT H b) pl.isList (fun w hw => ?_) ⟨.bl _, H, I, rfl, ?_⟩
  · obtain ⟨i, hi⟩ := List.mem_iff_getElem?.mp (show w ∈ its by simpa using hw)
    exact (key i w hi).elim fun l g => g.2.1
  · have e : its.toArray.any (hitT H b) = decide (b ∈ bars) := by
      rw [show its.toArray.any (hitT H b) = its.any (hitT H b) by simp, Bool.eq_iff_iff, List.any_eq_true, decide_eq_true_iff]
      constructor
      · rintro ⟨w, hw, hh⟩
        obtain ⟨i, hi⟩ := List.mem_iff_getElem?.mp hw
        obtain ⟨l, hl, _, e⟩ := key i w hi
        rw [e] at hh
        exact of_decide_eq_true hh ▸ List.mem_of_getElem? hl
      · intro hb
        obtain ⟨i, hi⟩ := List.mem_iff_getElem?.mp hb
        have hlt : i < its.length := by
          rw [← r.length, tk.1]; exact (List.getElem?_eq_some_iff.mp hi).1
        obtain ⟨l, hl, _, e⟩ := key i _ (List.getElem?_eq_getElem hlt)
        rw [hi] at hl
        cases hl
        exact ⟨_, List.getElem_mem hlt, by rw [e]; exact decide_eq_true rfl⟩
    rw [e]
    exact k
end
end Ab
set_option Elab.async false
set_option linter.all false
set_option maxRecDepth 100000
namespace Ab
open PySem L2
def underW (bars : List (List Int)) : List (List Int) → List Int → Bool
  | [], b => decide (b ∈ bars)
  | l :: rest, b => decide (b ∈ bars) || l.all fun h => underW bars rest (b ++ [h])
theorem under_of {bars : List (List Int)} : ∀ (rest : List (List Int)) (b : List Int), (∀ c, c <+: b → c ≠ b → c ∉ bars) → (∀ e, begW rest e = true → e.length = rest.length → ∃ x ∈ bars, x <+: b ++ e) → underW bars rest b = true
  | [], b, h1, h2 => by
    obtain ⟨x, hx, hp⟩ := h2 [] rfl rfl
    rw [List.append_nil] at hp
    by_cases e : x = b
    · exact decide_eq_true (e ▸ hx)
    · exact absurd hx (h1 x hp e)
  | l :: rest, b, h1, h2 => by
    unfold underW
    by_cases hb : b ∈ bars
    · rw [decide_eq_true hb]; rfl
    · rw [decide_eq_false hb, Bool.false_or, List.all_eq_true]
      intro h hh
      refine under_of rest (b ++ [h]) (fun c hc hne => ?_) (fun e he hl => ?_)
      · rcases prefix_snoc.mp hc with hc | hc
        · by_cases e : c = b
          · rw [e]; exact hb
          · exact h1 c hc e
        · exact absurd hc hne
      · obtain ⟨x, hx, hp⟩ := h2 (h :: e) (by
          show (decide (h ∈ l) && begW rest e) = true
          rw [decide_eq_true hh, he]; rfl) (by rw [List.length_cons, List.length_cons, hl])
        exact ⟨x, hx, by rw [List.append_assoc]; exact hp⟩
theorem under_ex {bars : List (List Int)} : ∀ (rest : List (List Int)) (b : List Int), underW bars rest b = true → ∀ e, begW rest e = true → e.length = rest.length → ∃ x ∈ bars, x <+: b ++ e
  | [], b, h, e, he, hl => by
    exact ⟨b, of_decide_eq_true h, List.prefix_append _ _⟩
  | l :: rest, b, h, e, he, hl => by
    unfold underW at h
    rcases Bool.or_eq_true_iff.mp h with h | h
    · exact ⟨b, of_decide_eq_true h, List.prefix_append _ _⟩
    · cases e with
      | nil => simp at hl
      | cons x e =>
        have he2 : (decide (x ∈ l) && begW rest e) = true := he
        rw [Bool.and_eq_true] at he2
        obtain ⟨y, hy, hp⟩ := under_ex rest (b ++ [x]) (List.all_eq_true.mp h x (of_decide_eq_true he2.1)) e he2.2 (by simpa using hl)
        exact ⟨y, hy, by rw [List.append_assoc] at hp; exact hp⟩
theorem under_free (bars ws : List (List Int)) : underW bars ws [] = (freeW bars ws).isEmpty := by
  rw [Bool.eq_iff_iff, List.isEmpty_iff]
  constructor
  · intro h
    exact freeW_cov fun d hd hl => under_ex ws [] h d hd hl
  · intro h
    refine under_of ws [] (fun c hc hne => absurd (List.prefix_nil.mp hc) hne) (fun e he hl => ?_)
    have hn : e ∉ freeW bars ws := by rw [h]; exact List.not_mem_nil
    rw [mem_freeW] at hn
    apply Classical.byContradiction
    intro z
    exact hn ⟨he, hl, fun c hc hb => z ⟨c, hb, hc⟩⟩
def dueW (n : Int) (ws : List (List Int)) (wt : List Int) (bars : List (List Int)) (m : Int) : Bool := (bars.all fun b => begW ws b && showsW n ws wt b m) && underW bars ws []
theorem due_is (n : Int) (ws : List (List Int)) (wt : List Int) (bars : List (List Int)) (m : Int) : doShowW n ws wt bars m = dueW n ws wt bars m := by
  unfold doShowW dueW
  rw [under_free, Bool.eq_iff_iff]
  simp only [Bool.and_eq_true, List.all_eq_true]
  constructor
  · rintro ⟨h1, h2, h3⟩
    exact ⟨fun b hb => ⟨h1 b hb, h3 b hb⟩, h2⟩
  · rintro ⟨h1, h2⟩
    exact ⟨fun b hb => (h1 b hb).1, h2, fun b hb => (h1 b hb).2⟩
section
variable {P : Program} {w : World} {K : PySem.W.Frag} {mg : Str → Option Value} {base : Heap}
variable {fW fH fK fB fNB : Addr} {dW dH dK dB dNB : FuncData}
def spUn (K : PySem.W.Frag) (d : Nat) : Sp := fun vs H Q _ => ∃ (x : V) (p dp : Addr) (n : Int) (ws : List (List Int)) (b : List Int) (bars : List (List Int)) (xs : List V), vs = [x, .ref p, .ref dp] ∧ Den K H (bookD n ws) x ∧ isBook (bookD n ws) = true ∧ H p = some (.tup (b.map V.int)) ∧ begW ws b = true ∧ H dp = some (.lst xs) ∧ Tk H bars xs ∧ ws.length < b.length + d ∧ ∀ H', Same H H' → Q (.bl (underW bars (ws.drop b.length) b)) H'
theorem scAUnder : FnScope ["book", "begun", "bars"] ["book", "begun", "bars"] (defScope sAUnder) := ⟨rfl, rfl, rfl, by decide +kernel, rfl, by decide +kernel, by decide +kernel⟩
set_option maxHeartbeats 2000000 in
theorem ok_under {f : Addr} {fd : FuncData} (G : Fn K mg "_law_aunder" sAUnder ["book", "begun", "bars"] f fd) (B : Bl mg) : ∀ d, FnOk P w K mg base CX0 d f fd ["book", "begun", "bars"] (spUn K d)
  | 0 => ⟨fun vs H Q E h => by obtain ⟨x, p, dp, n, ws, b, bars, xs, rfl, _⟩ := h; rfl, fun A outer s H args us vs Q E _ _ _ _ h => by
      obtain ⟨x, p, dp, n, ws, b, bars, xs, _, _, _, _, hb, _, _, hlt, _⟩ := h
      have := begW_len ws b hb
      omega⟩
  | d + 1 => by
    have GUn := G
    have OUn : FnOk P w K mg base CX0 d f fd ["book", "begun", "bars"] (spUn K d) := ok_under G B d
    refine G.fn.ok scAUnder (fun vs H Q E h => ?_) (fun cdv A outer s H vs Q E hr h => ?_)
    · obtain ⟨x, p, dp, n, ws, b, bars, xs, rfl, _⟩ := h
      rfl
    · obtain ⟨x, p, dp, n, ws, b, bars, xs, rfl, hx, hbk, hp, hb, hdp, hin, hlt, k⟩ := h
      have rU : Room d _ := hr
      refine ⟨_, (pss_cons (ps_if (pt_cmpR (op_inT hr.u64) (pv 1) (pv 2) (by with_unfolding_all rfl))
      (pss_one (ps_ret pe_bl))
      pss_nil)
    (pss_cons (ps_if (pt_cmpR op_eq (pe_callB call_len_seq rfl B.len b_len (pa_cons (pv 1) pa_nil)) (pe_callB call_len_seq rfl B.len b_len (pa_cons (pe_ix ix_tup (pv 0) pe_int (fun _ _ => rfl)) pa_nil)) (nomark _))
      (pss_one (ps_ret pe_bl))
      pss_nil)
    (pss_one (ps_ret (pe_cmpR (op_eqD hr.u64) (pe_comp (own := ["hand"]) (fr := [2, 1, 0]) (frn := ["bars", "begun", "book"]) (compOk_of (defScope sAUnder) ["book", "begun", "bars"] rfl rfl (by decide +kernel)) rfl (pi_tup (pe_ix ix_tup (pe_ix ix_tup (pv 0) pe_int (fun _ _ => rfl)) (pe_callB call_len_seq rfl B.len b_len (pa_cons (pv 1) pa_nil)) (fun _ _ => rfl)))
        (fun _ _ _ _ => (pg_name (i := 0) (show (["hand", "bars", "begun", "book"] : List Str).Nodup by decide +kernel) rfl (Or.inl rfl))) (fun _ _ _ _ => pf_one (pt_not (pt_val (pe_fn GUn OUn rU rfl (pa_cons (pv 3) (pa_cons (pe_op (op_cat3 (K := K) rfl) (pv 2) (pe_tup (pa_cons (pv 0) pa_nil))) (pa_cons (pv 1) pa_nil)))))))
        (fun _ _ _ _ => (pv 0))) (pe_lst pa_nil) (nomark _)))))), ?_⟩
      obtain ⟨c, bb, ys, e, hc, hb1, hys1⟩ := den_book hx
      cases e
      have hly := denAll_length hys1
      rw [List.length_map] at hly
      obtain ⟨hn1, hn6, h12, hwk⟩ := book_parts hbk
      have hbl := begW_len ws b hb
      refine ⟨_, rfl, _, rfl, p, dp, xs, bars, b, rfl, rfl, hdp, hin, hp, _, rfl, ?_⟩
      refine ite2 (fun c0 => ?_) (fun c0 => ?_)
      · have e : underW bars (ws.drop b.length) b = true := by cases ws.drop b.length <;> (unfold underW; rw [c0]; try rfl)
        rw [← e]
        exact k _ (Same.refl _)
      have c0 : decide (b ∈ bars) = false := by simpa using c0
      refine ⟨_, rfl, p, _, rfl, .inr (SqT.of hp), _, rfl, c, _, 1, .ref bb, rfl, rfl, hc, rfl, bb, ys, rfl, .inr hb1, rfl, _, rfl, ?_⟩
      rw [List.length_map, hly]
      refine ite2 (fun c1 => ?_) (fun c1 => ?_)
      · have c1 : b.length = ws.length := by
          have := of_decide_eq_true c1
          injection this with this
          omega
        have e : underW bars (ws.drop b.length) b = false := by rw [c1, List.drop_length]; unfold underW; exact c0
        rw [← e]
        exact k _ (Same.refl _)
      have hblt : b.length < ws.length := by
        by_cases z : b.length = ws.length
        · exact absurd (decide_eq_true (by rw [z])) c1
        · omega
      have hla : ws[b.length]? = some ws[b.length] := List.getElem?_eq_getElem hblt
      have hlm := List.getElem_mem hblt
      have hdr := List.drop_eq_getElem_cons hblt
      generalize ws[b.length] = l at hla hlm hdr
      obtain ⟨hl0, hl1, hl2⟩ := work_parts (hwk l hlm)
      have hl6 := work_short (by omega) hl1 hl2
      obtain ⟨u, hu, hdu⟩ := denAll_get hys1 (i := b.length) (d := workD l) (by rw [List.getElem?_map, hla]; rfl)
      obtain ⟨la, rfl, hua⟩ := den_tints.mp hdu
      refine ⟨_, rfl, c, _, 1, .ref bb, rfl, rfl, hc, rfl, _, rfl, p, _, rfl, .inr (SqT.of hp), bb, ys, _, .ref la, rfl, rfl, hb1, by rw [List.length_map]; exact atI_nat hu, la, rfl, ⟨_, hua⟩, comp_tup (K := K) (a := la) (xs := l.map V.int) (fun σ => ∃ v, σ = [v, some (.ref dp), some (.ref p), some (.ref c)]) (fun e zs H2 => Same H H2 ∧ zs = ((l.take e).filter fun h => !underW bars (ws.drop (b.length + 1)) (b ++ [h])).map V.int) (size1 (by rw [List.length_map]; omega)) ⟨none, rfl⟩ ⟨Same.refl _, rfl⟩ ?_ (fun e zs H2 h => h.1.seqT hua) ?_ ?_⟩
      · rintro e zs H2 ⟨_, rfl⟩
        rw [List.length_map]
        exact Nat.le_trans (List.length_filter_le _ _) (by rw [List.length_take]; exact Nat.min_le_left _ _)
      · rintro e zs σ z H2 hz2 ⟨v, rfl⟩ ⟨s2, rfl⟩ hz
        rw [List.getElem?_map] at hz2
        obtain ⟨h, hh, rfl⟩ := Option.map_eq_some_iff.mp hz2
        refine ⟨_, rfl, _, rfl, _, rfl, sz1 _, fun pt hpt => cat3_go (K := K) (SqT.of ((s2.trans (Same.new hpt)) _ _ hp)) upd_same (by rw [List.length_map]; omega) fun p9 H9 s9 hp9 => ?_⟩
        have s29 := s2.trans ((Same.new (o := .tup [.int h]) hpt).trans s9)
        have hbh : begW ws (b ++ [h]) = true := by
          refine begW_join ws b [h] hb ?_
          rw [hdr]
          show (decide (h ∈ l) && begW _ []) = true
          rw [decide_eq_true (List.mem_of_getElem? hh)]
          cases (List.drop (b.length + 1) ws) <;> rfl
        refine ⟨_, rfl, _, p9, dp, n, ws, b ++ [h], bars, xs, rfl, s29.den _ _ hx, hbk, by rw [hp9, List.map_append]; rfl, hbh, s29 _ _ hdp, hin.same s29, by rw [List.length_append, List.length_singleton]; omega, fun H10 s10 => ?_⟩
        have el : (b ++ [h]).length = b.length + 1 := by rw [List.length_append, List.length_singleton]
        rw [el]
        refine ⟨_, rfl, ?_⟩
        have htk : (l.take (e + 1)).filter (fun h => !underW bars (ws.drop (b.length + 1)) (b ++ [h])) = (l.take e).filter (fun h => !underW bars (ws.drop (b.length + 1)) (b ++ [h])) ++ (if (!underW bars (ws.drop (b.length + 1)) (b ++ [h])) = true then [h] else []) := by
          rw [List.take_add_one, hh, List.filter_append]
          congr 1
          show List.filter _ [h] = _
          rw [List.filter_cons]
          rfl
        refine ite2 (fun c2 => ?_) (fun c2 => ?_)
        · refine ⟨_, rfl, hz, ⟨_, rfl⟩, s29.trans s10, ?_⟩
          rw [htk, if_pos c2, List.map_append]
          rfl
        · refine ⟨⟨_, rfl⟩, s29.trans s10, ?_⟩
          rw [htk, if_neg c2, List.append_nil]
      · rintro zs H2 ⟨s2, rfl⟩ lp hlp
        rw [List.length_map, List.take_length]
        have s3 := Same.new (o := .lst ((l.filter fun h => !underW bars (ws.drop (b.length + 1)) (b ++ [h])).map V.int)) hlp
        refine ⟨size1 (Nat.zero_le _), fun zp hzp => ?_⟩
        have s4 := Same.new (o := .lst []) hzp
        refine ⟨.list ((l.filter fun h => !underW bars (ws.drop (b.length + 1)) (b ++ [h])).map .int), .list (([] : List Int).map .int), den_lints.mpr ⟨lp, rfl, s4.seqL (SqL.of upd_same)⟩, den_lints.mpr ⟨zp, rfl, SqL.of upd_same⟩, noDict_ints _, noDict_ints _, shaped_ints _, shaped_ints _, ?_⟩
        rw [eqv_lints]
        have e : decide ((l.filter fun h => !underW bars (ws.drop (b.length + 1)) (b ++ [h])) = []) = underW bars (ws.drop b.length) b := by
          rw [hdr]
          show _ = (decide (b ∈ bars) || l.all fun h => underW bars (ws.drop (b.length + 1)) (b ++ [h]))
          rw [c0, Bool.false_or, Bool.eq_iff_iff, decide_eq_true_iff, List.filter_eq_nil_iff, List.all_eq_true]
          constructor
          · intro q x hx
            simpa using q x hx
          · intro q x hx
            simpa using q x hx
        rw [e]
        exact k _ (s2.trans (s3.trans s4))
end
end Ab
set_option Elab.async false
set_option linter.all false
set_option maxRecDepth 100000
namespace Ab
open PySem L2
def okAt (ws : List (List Int)) (b : List Int) (i : Nat) : Bool := match ws[i]?, b[i]? with
  | some l, some x => decide (x ∈ l)
  | _, _ => true
theorem beg_ok : ∀ (ws : List (List Int)) (b : List Int), b.length ≤ ws.length → (begW ws b = true ↔ ∀ i, i < b.length → okAt ws b i = true)
  | ws, [], _ => by
    constructor
    · intro _ i hi; exact absurd hi (Nat.not_lt_zero i)
    · intro _; cases ws <;> rfl
  | [], x :: b, h => by simp at h
  | l :: ws, x :: b, h => by
    have ih := beg_ok ws b (by simpa using h)
    show (decide (x ∈ l) && begW ws b) = true ↔ _
    rw [Bool.and_eq_true, ih]
    constructor
    · rintro ⟨h1, h2⟩ i hi
      cases i with
      | zero => exact h1
      | succ i => exact h2 i (by simpa using hi)
    · intro g
      exact ⟨g 0 (by simp), fun i hi => g (i + 1) (by simpa using hi)⟩
def badAt (ws : List (List Int)) (b : List Int) (j : Nat) : List Int := ((List.range j).filter fun i => !okAt ws b i).map fun i : Nat => (i : Int)
theorem bad_step (ws : List (List Int)) (b : List Int) (j : Nat) : badAt ws b (j + 1) = badAt ws b j ++ (if (!okAt ws b j) = true then [(j : Int)] else []) := by
  unfold badAt
  rw [List.range_succ, List.filter_append, List.map_append]
  congr 1
  rw [List.filter_cons]
  by_cases c : (!okAt ws b j) = true
  · rw [if_pos c, if_pos c]; rfl
  · rw [if_neg c, if_neg c]; rfl
theorem bad_len (ws : List (List Int)) (b : List Int) (j : Nat) : (badAt ws b j).length ≤ j := by
  unfold badAt
  rw [List.length_map]
  exact Nat.le_trans (List.length_filter_le _ _) (by rw [List.length_range]; exact Nat.le_refl _)
theorem bad_nil (ws : List (List Int)) (b : List Int) (h : b.length ≤ ws.length) : decide (badAt ws b b.length = []) = begW ws b := by
  rw [Bool.eq_iff_iff, decide_eq_true_iff, beg_ok ws b h]
  unfold badAt
  rw [List.map_eq_nil_iff, List.filter_eq_nil_iff]
  constructor
  · intro g i hi
    simpa using g i (List.mem_range.mpr hi)
  · intro g i hi
    simpa using g i (List.mem_range.mp hi)
section
variable {P : Program} {w : World} {K : PySem.W.Frag} {mg : Str → Option Value} {base : Heap}
def spDue (K : PySem.W.Frag) : Sp := fun vs H Q _ => ∃ (x : V) (wp bp : Addr) (n : Int) (ws : List (List Int)) (wt : List Int) (xs : List V) (bars : List (List Int)) (m : Int), vs = [x, .ref wp, .ref bp, .int m] ∧ Den K H (bookD n ws) x ∧ isBook (bookD n ws) = true ∧ SqT K H wp (wt.map V.int) ∧ WtOk ws wt ∧ ws.length ≤ 7 ∧ H bp = some (.lst xs) ∧ Tk H bars xs ∧ ∀ H', Same H H' → Q (.bl (dueW n ws wt bars m)) H'
theorem scADue : FnScope ["book", "weights", "bars", "number", "begun"] ["book", "weights", "bars", "number"] (defScope sADue) := ⟨rfl, rfl, rfl, by decide +kernel, rfl, by decide +kernel, by decide +kernel⟩
set_option maxHeartbeats 2000000 in
theorem ok_due {f fBa fU : Addr} {fd dBa dU : FuncData} (G : Fn K mg "_law_adue" sADue ["book", "weights", "bars", "number"] f fd) (B : Bl mg) (GBa : Fn K mg "_law_abarred" sABar ["book", "weights", "begun", "most"] fBa dBa) (OBa : FnOk P w K mg base CX0 2 fBa dBa ["book", "weights", "begun", "most"] (spABar K)) (GUn : Fn K mg "_law_aunder" sAUnder ["book", "begun", "bars"] fU dU) : FnOk P w K mg base CX0 9 f fd ["book", "weights", "bars", "number"] (spDue K) := by
  have OUn : FnOk P w K mg base CX0 8 fU dU ["book", "begun", "bars"] (spUn K 8) := ok_under GUn B 8
  refine G.fn.ok scADue (fun vs H Q E h => ?_) (fun cdv A outer s H vs Q E hr h => ?_)
  · obtain ⟨x, wp, bp, n, ws, wt, xs, bars, m, rfl, _⟩ := h
    rfl
  · obtain ⟨x, wp, bp, n, ws, wt, xs, bars, m, rfl, hx, hbk, hw, hwt, hl7, hbp, tb, k⟩ := h
    have r2 : Room 2 _ := hr.mono (by decide)
    have rU : Room 8 _ := hr
    refine ⟨_, (pss_cons (ps_for PassesOwn.never rfl (pi_list (pv 2)) (pg_name (i := 4) scADue.nd rfl (Or.inr rfl))
      (pss_cons (ps_if (pt_cmpR op_gt (pe_callB call_len_seq rfl B.len b_len (pa_cons (pv 4) pa_nil)) (pe_callB call_len_seq rfl B.len b_len (pa_cons (pe_ix ix_tup (pv 0) pe_int (fun _ _ => rfl)) pa_nil)) (nomark _))
      (pss_one (ps_ret pe_bl))
      pss_nil)
    (pss_cons (ps_if (pt_cmpR (op_neD hr.u64) (pe_comp (own := ["at"]) (fr := [4, 0]) (frn := ["begun", "book"]) (compOk_of (defScope sADue) ["book", "weights", "bars", "number", "begun"] rfl rfl (by decide +kernel)) rfl (pi_range1 rfl B.range (pa_cons (pe_callB call_len_seq rfl B.len b_len (pa_cons (pv 4) pa_nil)) pa_nil))
        (fun _ _ _ _ => (pg_name (i := 0) (show (["at", "begun", "book"] : List Str).Nodup by decide +kernel) rfl (Or.inl rfl))) (fun _ _ _ _ => pf_one (pt_cmpR (op_notIn_seqK (K := K) rfl) (pe_ix (ix_tupK (K := K) rfl) (pv 1) (pv 0) (fun _ _ => rfl)) (pe_ix (ix_tupK (K := K) rfl) (pe_ix (ix_tupK (K := K) rfl) (pv 2) pe_int (fun _ _ => rfl)) (pv 0) (fun _ _ => rfl)) (by with_unfolding_all rfl)))
        (fun _ _ _ _ => (pv 0))) (pe_lst pa_nil) (nomark _))
      (pss_one (ps_ret pe_bl))
      pss_nil)
    (pss_one (ps_if (pt_not (pt_val (pe_fn GBa OBa r2 rfl (pa_cons (pv 0) (pa_cons (pv 1) (pa_cons (pv 4) (pa_cons (pv 3) pa_nil)))))))
      (pss_one (ps_ret pe_bl))
      pss_nil)))))
    (pss_one (ps_ret (pe_fn GUn OUn rU rfl (pa_cons (pv 0) (pa_cons (pe_tup pa_nil) (pa_cons (pv 2) pa_nil))))))), ?_⟩
    obtain ⟨c, bb, ys, e, hc, hb1, hys1⟩ := den_book hx
    cases e
    have hly := denAll_length hys1
    rw [List.length_map] at hly
    obtain ⟨hn1, hn6, h12, hwk⟩ := book_parts hbk
    refine ⟨_, rfl, bp, rfl, ⟨_, SqL.of hbp⟩, for_list (K := K) (a := bp) (xs := xs) (fun i σ H7 => (∃ v, σ = [some (.ref c), some (.ref wp), some (.ref bp), some (.int m), v]) ∧ Same H H7 ∧ ((bars.take i).all fun b => begW ws b && showsW n ws wt b m) = true) ⟨⟨none, rfl⟩, Same.refl _, by rw [List.take_zero]; rfl⟩ (fun i σ H7 _ h => h.2.1.seqL (SqL.of hbp)) ?_ ?_⟩
    · rintro i u σ H7 hu ⟨⟨v7, rfl⟩, s7, hall⟩
      obtain ⟨b, hb, p, rfl, hpb⟩ := tb.2 i u hu
      have hbm := List.mem_of_getElem? hb
      have hp7 := s7 _ _ hpb
      have bad : begW ws b = false → dueW n ws wt bars m = false := fun z => by
        unfold dueW
        have : (bars.all fun b => begW ws b && showsW n ws wt b m) = false := by
          rw [List.all_eq_false]
          exact ⟨b, hbm, by rw [z]; simp⟩
        rw [this]; rfl
      refine ⟨_, rfl, p, _, rfl, .inr (SqT.of hp7), _, rfl, c, _, 1, .ref bb, rfl, rfl, s7.seqT hc, rfl, bb, ys, rfl, .inr (s7.seqT hb1), _, _, rfl, rfl, _, rfl, ?_⟩
      rw [List.length_map, hly]
      refine ite2 (fun c0 => ?_) (fun c0 => ?_)
      · have hlt : ws.length < b.length := by have := of_decide_eq_true c0; omega
        have e : begW ws b = false := by
          cases q : begW ws b with
          | false => rfl
          | true => have := begW_len ws b q; omega
        rw [← bad e]
        exact k _ s7
      have hle : b.length ≤ ws.length := by have := of_decide_eq_false (by simpa using c0 : decide ((ws.length : Int) < b.length) = false); omega
      refine ⟨_, rfl, p, _, rfl, .inr (SqT.of hp7), ?_⟩
      rw [List.length_map]
      refine ⟨b.length, rfl, by omega, by omega, comp_range (lo := 0) (n := ((b.length : Int)).toNat) (fun σ => ∃ v, σ = [v, some (.ref p), some (.ref c)]) (fun i zs H8 => H8 = H7 ∧ zs = (badAt ws b i).map V.int) (size1 (by omega)) ⟨none, rfl⟩ ⟨rfl, rfl⟩ (fun i zs H8 h => by rw [h.2, List.length_map]; exact bad_len _ _ _) ?_ ?_⟩
      · rintro j zs σ H8 hj ⟨v, rfl⟩ ⟨rfl, rfl⟩ hz
        have hjb : j < b.length := by omega
        have hbj : b[j]? = some b[j] := List.getElem?_eq_getElem hjb
        have hwj : ws[j]? = some (ws[j]'(by omega)) := List.getElem?_eq_getElem _
        generalize b[j] = h at hbj
        generalize (ws[j]'(by omega)) = l at hwj
        obtain ⟨u, hu2, hdu⟩ := denAll_get (s7.denAll _ _ hys1) (i := j) (d := workD l) (by rw [List.getElem?_map, hwj]; rfl)
        obtain ⟨la, rfl, hla⟩ := den_tints.mp hdu
        have a1 : atI (b.map V.int) (0 + (j : Int)) = some (.int h) := by rw [Int.zero_add]; exact atI_nat (by rw [List.getElem?_map, hbj]; rfl)
        have a2 : atI ys (0 + (j : Int)) = some (.ref la) := by rw [Int.zero_add]; exact atI_nat hu2
        have eo : okAt ws b j = decide (h ∈ l) := by unfold okAt; rw [hwj, hbj]
        refine ⟨_, rfl, _, rfl, p, _, _, _, rfl, rfl, SqT.of hp7, a1, _, rfl, c, _, 1, .ref bb, rfl, rfl, s7.seqT hc, rfl, _, rfl, bb, ys, _, _, rfl, rfl, s7.seqT hb1, a2, la, l.map V.int, rfl, .inr hla, rfl, flat_ints _, _, rfl, ?_⟩
        show if (!inV (.int h) (l.map V.int)) = true then _ else _
        rw [in_memI, ← eo]
        refine ite2 (fun c0 => ?_) (fun c0 => ?_)
        · refine ⟨_, rfl, hz, ⟨_, rfl⟩, rfl, ?_⟩
          rw [bad_step, if_pos c0, List.map_append, Int.zero_add]
          rfl
        · refine ⟨⟨_, rfl⟩, rfl, ?_⟩
          rw [bad_step, if_neg c0, List.append_nil]
      rintro zs H8 ⟨rfl, rfl⟩ lp hlp
      rw [show ((b.length : Int)).toNat = b.length by omega]
      have s8 := Same.new (o := .lst ((badAt ws b b.length).map V.int)) hlp
      have e8 : upd H8 lp (.lst ((badAt ws b b.length).map V.int)) lp = some (.lst ((badAt ws b b.length).map V.int)) := upd_same
      generalize upd H8 lp (.lst ((badAt ws b b.length).map V.int)) = H9 at s8 e8 ⊢
      refine ⟨size1 (Nat.zero_le _), fun zp hzp => ?_⟩
      have s9 := Same.new (o := .lst []) hzp
      refine ⟨.list ((badAt ws b b.length).map .int), .list (([] : List Int).map .int), den_lints.mpr ⟨lp, rfl, s9.seqL (SqL.of e8)⟩, den_lints.mpr ⟨zp, rfl, SqL.of upd_same⟩, noDict_ints _, noDict_ints _, shaped_ints _, shaped_ints _, _, rfl, ?_⟩
      rw [eqv_lints, bad_nil ws b hle]
      have s79 := s7.trans (s8.trans s9)
      have s89 := s8.trans s9
      generalize upd H9 zp (.lst []) = H10 at s79 s89 ⊢
      refine ite2 (fun c1 => ?_) (fun c1 => ?_)
      · rw [← bad (by simpa using c1)]
        exact k _ s79
      have hbb : begW ws b = true := by simpa using c1
      refine ⟨_, rfl, _, rfl, _, rfl, _, rfl, .ref c, wp, p, n, ws, wt, b, m, rfl, s79.den _ _ hx, hbk, s79.seqT hw, hwt, SqT.of (s89 _ _ hp7), hbb, fun H11 s11 => ⟨_, rfl, ?_⟩⟩
      cases q : showsW n ws wt b m with
      | false =>
        refine iteT ?_
        have e : dueW n ws wt bars m = false := by
          unfold dueW
          have : (bars.all fun b => begW ws b && showsW n ws wt b m) = false := by
            rw [List.all_eq_false]
            exact ⟨b, hbm, by rw [q]; simp⟩
          rw [this]; rfl
        rw [← e]
        exact k _ (s79.trans s11)
      | true =>
        refine iteF ?_
        refine ⟨⟨_, rfl⟩, s79.trans s11, ?_⟩
        rw [List.take_add_one, hb, List.all_append, hall]
        show (true && ((begW ws b && showsW n ws wt b m) && true)) = true
        rw [hbb, q]; rfl
    · rintro σ H7 ⟨⟨v7, rfl⟩, s7, hall⟩
      rw [tb.1, List.take_length] at hall
      refine ⟨_, rfl, size1 (Nat.zero_le _), fun zp hzp => ?_⟩
      have s8 := Same.new (o := .tup []) hzp
      refine ⟨_, rfl, .ref c, zp, bp, n, ws, [], bars, xs, rfl, (s7.trans s8).den _ _ hx, hbk, upd_same, by cases ws <;> rfl, (s7.trans s8) _ _ hbp, tb.same (s7.trans s8), by show ws.length < 0 + 8; omega, fun H9 s9 => ?_⟩
      have e : dueW n ws wt bars m = underW bars (ws.drop ([] : List Int).length) [] := by
        unfold dueW
        rw [hall]; rfl
      rw [← e]
      exact k _ ((s7.trans s8).trans s9)
end
end Ab
set_option Elab.async false
set_option linter.all false
set_option maxRecDepth 100000
namespace Ab
open PySem L2
def AllT (H : Hp) (N : Nat) (xs : List V) : Prop := ∀ x ∈ xs, ∃ l : List Int, TkE H l x ∧ l.length ≤ N
theorem AllT.nil {H : Hp} {N : Nat} : AllT H N [] := fun x h => by cases h
theorem AllT.one {H : Hp} {N : Nat} {x : V} {l : List Int} (h : TkE H l x) (hl : l.length ≤ N) : AllT H N [x] := fun y hy => by
  rw [List.mem_singleton] at hy
  exact ⟨l, hy ▸ h, hl⟩
theorem AllT.same {H H' : Hp} {N : Nat} {xs : List V} (h : AllT H N xs) (s : Same H H') : AllT H' N xs := fun x hx => by
  obtain ⟨l, h1, h2⟩ := h x hx
  exact ⟨l, h1.same s, h2⟩
theorem TkE.but {H H' : Hp} {t : Addr} {ws : List V} {l : List Int} {x : V} (h : TkE H l x) (ht : H t = some (.lst ws)) (b : But t H H') : TkE H' l x := by
  obtain ⟨p, h1, h2⟩ := h
  exact ⟨p, h1, b _ _ (fun z => by rw [z, ht] at h2; cases h2) h2⟩
theorem AllT.but {H H' : Hp} {N : Nat} {t : Addr} {ws : List V} {xs : List V} (h : AllT H N xs) (ht : H t = some (.lst ws)) (b : But t H H') : AllT H' N xs := fun x hx => by
  obtain ⟨l, h1, h2⟩ := h x hx
  exact ⟨l, h1.but ht b, h2⟩
theorem AllT.app {H : Hp} {N : Nat} {xs ys : List V} (h : AllT H N xs) (g : AllT H N ys) : AllT H N (xs ++ ys) := fun x hx => by
  rcases List.mem_append.mp hx with hx | hx
  · exact h x hx
  · exact g x hx
theorem AllT.sub {H : Hp} {N : Nat} {xs ys : List V} (h : AllT H N xs) (g : ∀ y ∈ ys, y ∈ xs) : AllT H N ys := fun y hy => h y (g y hy)
theorem AllT.mono {H : Hp} {N M : Nat} {xs : List V} (h : AllT H N xs) (g : N ≤ M) : AllT H M xs := fun y hy => by
  obtain ⟨l, h1, h2⟩ := h y hy
  exact ⟨l, h1, Nat.le_trans h2 g⟩
theorem AllT.tk {H : Hp} {N : Nat} : ∀ {xs : List V}, AllT H N xs → ∃ bs, Tk H bs xs
  | [], _ => ⟨[], Tk.nil⟩
  | x :: xs, h => by
    obtain ⟨l, h1, _⟩ := h x List.mem_cons_self
    obtain ⟨bs, hb⟩ := AllT.tk (xs := xs) fun y hy => h y (List.mem_cons_of_mem _ hy)
    exact ⟨l :: bs, (Tk.one h1).app hb⟩
theorem Tk.all {H : Hp} {N : Nat} {bs : List (List Int)} {xs : List V} (h : Tk H bs xs) (g : ∀ b ∈ bs, b.length ≤ N) : AllT H N xs := fun x hx => by
  obtain ⟨i, hi⟩ := List.mem_iff_getElem?.mp hx
  obtain ⟨l, h1, h2⟩ := h.2 i x hi
  exact ⟨l, h2, g l (List.mem_of_getElem? h1)⟩
section
variable {P : Program} {w : World} {K : PySem.W.Frag} {mg : Str → Option Value} {base : Heap}
def spAllD (K : PySem.W.Frag) : Sp := fun vs H Q _ => ∃ (x : V) (n : Int) (ws : List (List Int)), vs = [x] ∧ Den K H (bookD n ws) x ∧ isBook (bookD n ws) = true ∧ n ≤ 4 ∧ ws.length ≤ 7 ∧ ∀ p xs H', Same H H' → H p = none → H' p = some (.lst xs) → AllT H' 7 xs → xs.length ≤ 16384 → Q (.ref p) H'
theorem scAllD : FnScope ["book", "found", "able", "more", "begun"] ["book"] (defScope sAllD) := ⟨rfl, rfl, rfl, by decide +kernel, rfl, by decide +kernel, by decide +kernel⟩
set_option maxHeartbeats 2000000 in
theorem ok_allD {f : Addr} {fd : FuncData} (G : Fn K mg "_law_aall_deals" sAllD ["book"] f fd) (B : Bl mg) : FnOk P w K mg base CX0 1 f fd ["book"] (spAllD K) := by
  refine G.fn.ok scAllD (fun vs H Q E h => ?_) (fun cdv A outer s H vs Q E hr h => ?_)
  · obtain ⟨x, n, ws, rfl, _⟩ := h
    rfl
  · obtain ⟨x, n, ws, rfl, hx, hbk, hn4, hl7, k⟩ := h
    refine ⟨_, (pss_cons (ps_set (i := 1) scAllD.nd rfl (Or.inl rfl) (pe_lst (pa_cons (pe_tup pa_nil) pa_nil)))
    (pss_cons (ps_for PassesOwn.never rfl (pi_tup (pe_ix ix_tup (pv 0) pe_int (fun _ _ => rfl))) (pg_name (i := 2) scAllD.nd rfl (Or.inl rfl))
      (pss_cons (ps_set (i := 3) scAllD.nd rfl (Or.inl rfl) (pe_lst pa_nil))
    (pss_cons (ps_for PassesOwn.never rfl (pi_list (pv 1)) (pg_name (i := 4) scAllD.nd rfl (Or.inr rfl))
      (pss_one (ps_set (i := 3) scAllD.nd rfl (Or.inl rfl) (pe_op op_cat (pv 3) (pe_comp (own := ["hand"]) (fr := [4]) (frn := ["begun"]) (compOk_of (defScope sAllD) ["book", "found", "able", "more", "begun"] rfl rfl (by decide +kernel)) rfl (pi_tup (pv 2))
        (fun _ _ _ _ => (pg_name (i := 0) (show (["hand", "begun"] : List Str).Nodup by decide +kernel) rfl (Or.inl rfl))) (fun _ _ _ _ => pf_nil)
        (fun _ _ _ _ => (pe_op (op_cat3 (K := K) rfl) (pv 1) (pe_tup (pa_cons (pv 0) pa_nil)))))))))
    (pss_one (ps_set (i := 1) scAllD.nd rfl (Or.inl rfl) (pv 3))))))
    (pss_one (ps_ret (pv 1))))), ?_⟩
    obtain ⟨c, bb, ys, e, hc, hb1, hys1⟩ := den_book hx
    cases e
    have hly := denAll_length hys1
    rw [List.length_map] at hly
    obtain ⟨hn1, hn6, h12, hwk⟩ := book_parts hbk
    refine ⟨size1 (Nat.zero_le _), fun p0 h0 => ⟨sz1 _, fun qp hqp => ?_⟩⟩
    have s2 := (Same.new (o := .tup []) h0).trans (Same.new (o := .lst [.ref p0]) hqp)
    have nqp : H qp = none := (Same.new (o := .tup []) h0).free hqp
    have e2q : upd (upd H p0 (.tup [])) qp (.lst [.ref p0]) qp = some (.lst [.ref p0]) := upd_same
    have t2 : AllT (upd (upd H p0 (.tup [])) qp (.lst [.ref p0])) 0 [.ref p0] := AllT.one (l := []) ⟨p0, rfl, (Same.new (o := .lst [.ref p0]) hqp) _ _ upd_same⟩ (Nat.le_refl _)
    generalize upd (upd H p0 (.tup [])) qp (.lst [.ref p0]) = H2 at s2 e2q t2 ⊢
    dsimp only [gName]
    refine ⟨_, rfl, c, _, 1, .ref bb, rfl, rfl, s2.seqT hc, rfl, bb, rfl, ⟨_, s2.seqT hb1⟩, for_tup (K := K) (a := bb) (xs := ys) (fun i σ H3 => ∃ fp fs v2 v3 v4, σ = [some (.ref c), some (.ref fp), v2, v3, v4] ∧ Same H H3 ∧ H fp = none ∧ H3 fp = some (.lst fs) ∧ AllT H3 i fs ∧ fs.length ≤ 4 ^ i) ⟨qp, _, none, none, none, rfl, s2, nqp, e2q, t2, Nat.le_refl _⟩ (fun i σ H3 _ h => by obtain ⟨_, _, _, _, _, _, s3, _⟩ := h; exact s3.seqT hb1) ?_ ?_⟩
    · rintro i u σ H3 hu ⟨fp, fs, v2, v3, v4, rfl, s3, nfp, e3, t3, hl3⟩
      obtain ⟨d, hd1, hd2⟩ := denAll_at (s3.denAll _ _ hys1) hu
      rw [List.getElem?_map] at hd1
      obtain ⟨l, hl, rfl⟩ := Option.map_eq_some_iff.mp hd1
      obtain ⟨la, rfl, hla⟩ := den_tints.mp hd2
      have hi7 : i < ws.length := (List.getElem?_eq_some_iff.mp hl).1
      obtain ⟨hl0, hl1, hl2⟩ := work_parts (hwk l (List.mem_of_getElem? hl))
      have hl4 := work_short (by omega) hl1 hl2
      have hp4 : 4 ^ i ≤ 4 ^ 6 := Nat.pow_le_pow_right (by decide) (by omega)
      have hp4' : (4 : Nat) ^ 6 = 4096 := by decide
      have hfl : fs.length ≤ 4096 := by omega
      refine ⟨size1 (Nat.zero_le _), fun mp hmp => ?_⟩
      have s4 := Same.new (o := .lst []) hmp
      have e4 : upd H3 mp (.lst []) mp = some (.lst []) := upd_same
      have nmp : H mp = none := s3.free hmp
      generalize upd H3 mp (.lst []) = H4 at s4 e4 ⊢
      dsimp only [gName]
      refine ⟨_, rfl, fp, rfl, ⟨_, SqL.of (s4 _ _ e3)⟩, for_list (K := K) (a := fp) (xs := fs) (fun j σ H5 => ∃ mp ms v4, σ = [some (.ref c), some (.ref fp), some (.ref la), some (.ref mp), v4] ∧ Same H4 H5 ∧ H mp = none ∧ H5 mp = some (.lst ms) ∧ AllT H5 (i + 1) ms ∧ ms.length ≤ j * 4) ⟨mp, [], v4, rfl, Same.refl _, nmp, e4, AllT.nil, Nat.zero_le _⟩ (fun j σ H5 _ h => by obtain ⟨_, _, _, _, s5, _⟩ := h; exact s5.seqL (SqL.of (s4 _ _ e3))) ?_ ?_⟩
      · rintro j y σ H5 hy ⟨mp, ms, v4, rfl, s5, nmp, e5, t5, hl5⟩
        obtain ⟨b, ⟨p, rfl, hpb⟩, hbl⟩ := t3 y (List.mem_of_getElem? hy)
        have s35 := s4.trans s5
        have hp5 := s35 _ _ hpb
        have hjl : j < fs.length := (List.getElem?_eq_some_iff.mp hy).1
        refine ⟨_, rfl, _, rfl, la, rfl, ⟨_, s35.seqT hla⟩, comp_tup (K := K) (a := la) (xs := l.map V.int) (fun σ => ∃ v, σ = [v, some (.ref p)]) (fun e zs H6 => Same H5 H6 ∧ zs.length = e ∧ AllT H6 (i + 1) zs) (size1 (by rw [List.length_map]; omega)) ⟨none, rfl⟩ ⟨Same.refl _, rfl, AllT.nil⟩ (fun e zs H6 h => by rw [h.2.1]; exact Nat.le_refl _) (fun e zs H6 h => h.1.seqT (s35.seqT hla)) ?_ ?_⟩
        · rintro e zs σ z H6 hz6 ⟨v, rfl⟩ ⟨s6, hzl, t6⟩ hz
          rw [List.getElem?_map] at hz6
          obtain ⟨h, hh, rfl⟩ := Option.map_eq_some_iff.mp hz6
          refine ⟨_, rfl, _, rfl, sz1 _, fun pt hpt => cat3_go (K := K) (SqT.of ((s6.trans (Same.new hpt)) _ _ hp5)) upd_same (by rw [List.length_map]; omega) fun p9 H9 s9 hp9 => ?_⟩
          have s69 := (Same.new (o := .tup [.int h]) hpt).trans s9
          refine ⟨hz, ⟨_, rfl⟩, s6.trans s69, by rw [List.length_append, List.length_singleton, hzl], (t6.same s69).app (AllT.one (l := b ++ [h]) ⟨p9, rfl, by rw [hp9, List.map_append]; rfl⟩ (by rw [List.length_append, List.length_singleton]; omega))⟩
        · rintro zs H6 ⟨s6, hzl, t6⟩ lp hlp
          rw [List.length_map] at hzl
          have s7 := Same.new (o := .lst zs) hlp
          have e7 : upd H6 lp (.lst zs) lp = some (.lst zs) := upd_same
          generalize upd H6 lp (.lst zs) = H7 at s7 e7 ⊢
          have s57 := s6.trans s7
          refine ⟨mp, lp, ms, zs, rfl, rfl, s57 _ _ e5, e7, by rw [sizeLine_eq]; omega, fun np hnp => ?_⟩
          have s8 := Same.new (o := .lst (ms ++ zs)) hnp
          have s58 := s57.trans s8
          refine ⟨np, ms ++ zs, _, rfl, s5.trans s58, ((s3.trans s35).trans s57).free hnp, upd_same, (t5.same s58).app (t6.same (s7.trans s8)), ?_⟩
          rw [List.length_append, hzl, Nat.succ_mul]
          omega
      · rintro σ H5 ⟨mp, ms, v4, rfl, s5, nmp, e5, t5, hl5⟩
        refine ⟨_, rfl, mp, ms, _, _, _, rfl, s3.trans (s4.trans s5), nmp, e5, t5, ?_⟩
        rw [Nat.pow_succ]
        omega
    · rintro σ H3 ⟨fp, fs, v2, v3, v4, rfl, s3, nfp, e3, t3, hl3⟩
      refine ⟨_, rfl, k fp fs H3 s3 nfp e3 (t3.mono (by omega)) ?_⟩
      have hp4 : 4 ^ ys.length ≤ 4 ^ 7 := Nat.pow_le_pow_right (by decide) (by omega)
      have hp4' : (4 : Nat) ^ 7 = 16384 := by decide
      omega
end
end Ab
set_option Elab.async false
set_option linter.all false
set_option maxRecDepth 100000
namespace Ab
open PySem L2
section
variable {P : Program} {w : World} {K : PySem.W.Frag} {mg : Str → Option Value} {base : Heap}
def spGrown (K : PySem.W.Frag) (d : Nat) : Sp := fun vs H Q _ => ∃ (t a p : Addr) (ns : List Int) (x : V) (n : Int) (ws : List (List Int)) (b : List Int), vs = [.ref t, x, .ref p] ∧ Tape K H t a ns ∧ Den K H (bookD n ws) x ∧ isBook (bookD n ws) = true ∧ n ≤ 4 ∧ ws.length ≤ 7 ∧ H p = some (.tup (b.map V.int)) ∧ b.length ≤ ws.length ∧ ws.length < b.length + d ∧ ∀ q xs H', But t H H' → Tape K H' t a ns → H q = none → H' q = some (.lst xs) → AllT H' 7 xs → xs.length ≤ 4 ^ (ws.length - b.length) → xs ≠ [] → Q (.ref q) H'
theorem scGrown : FnScope ["tape", "book", "begun", "found", "hand"] ["tape", "book", "begun"] (defScope sGrown) := ⟨rfl, rfl, rfl, by decide +kernel, rfl, by decide +kernel, by decide +kernel⟩
set_option maxHeartbeats 2000000 in
theorem ok_grown {f fD : Addr} {fd dD : FuncData} (G : Fn K mg "_law_agrown" sGrown ["tape", "book", "begun"] f fd) (B : Bl mg) (GD : Fn K mg "_law_adigit" sADigit ["tape", "many"] fD dD) (OD : FnOk P w K mg base CX0 1 fD dD ["tape", "many"] (spDigit K)) : ∀ d, FnOk P w K mg base CX0 (d + 1) f fd ["tape", "book", "begun"] (spGrown K d)
  | 0 => ⟨fun vs H Q E h => by obtain ⟨t, a, p, ns, x, n, ws, b, rfl, _⟩ := h; rfl, fun A outer s H args us vs Q E _ _ _ _ h => by
      obtain ⟨t, a, p, ns, x, n, ws, b, _, _, _, _, _, _, _, hle, hlt, _⟩ := h
      omega⟩
  | d + 1 => by
    have GGr := G
    have OGr : FnOk P w K mg base CX0 (d + 1) f fd ["tape", "book", "begun"] (spGrown K d) := ok_grown G B GD OD d
    refine G.fn.ok scGrown (fun vs H Q E h => ?_) (fun cdv A outer s H vs Q E hr h => ?_)
    · obtain ⟨t, a, p, ns, x, n, ws, b, rfl, _⟩ := h
      rfl
    · obtain ⟨t, a, p, ns, x, n, ws, b, rfl, T, hx, hbk, hn4, hl7, hp, hle, hlt, k⟩ := h
      have rG : Room (d + 1) _ := hr
      have r1 : Room 1 _ := hr.mono (by omega)
      refine ⟨_, (pss_cons (ps_if (PW.pt (pw_or (pt_cmpR op_eq (pe_callB call_len_seq rfl B.len b_len (pa_cons (pv 2) pa_nil)) (pe_callB call_len_seq rfl B.len b_len (pa_cons (pe_ix ix_tup (pv 1) pe_int (fun _ _ => rfl)) pa_nil)) (nomark _)) (pw_or1 (pt_cmpR op_eq (pe_fn GD OD r1 rfl (pa_cons (pv 0) (pa_cons pe_int pa_nil))) pe_int (nomark _)))))
      (pss_one (ps_ret (pe_lst (pa_cons (pv 2) pa_nil))))
      pss_nil)
    (pss_cons (ps_set (i := 3) scGrown.nd rfl (Or.inl rfl) (pe_lst pa_nil))
    (pss_cons (ps_for PassesOwn.never rfl (pi_tup (pe_ix ix_tup (pe_ix ix_tup (pv 1) pe_int (fun _ _ => rfl)) (pe_callB call_len_seq rfl B.len b_len (pa_cons (pv 2) pa_nil)) (fun _ _ => rfl))) (pg_name (i := 4) scGrown.nd rfl (Or.inl rfl))
      (pss_one (ps_set (i := 3) scGrown.nd rfl (Or.inl rfl) (pe_op op_cat (pv 3) (pe_fn GGr OGr rG rfl (pa_cons (pv 0) (pa_cons (pv 1) (pa_cons (pe_op (op_cat3 (K := K) rfl) (pv 2) (pe_tup (pa_cons (pv 4) pa_nil))) pa_nil))))))))
    (pss_one (ps_ret (pv 3)))))), ?_⟩
      obtain ⟨c, bb, ys, e, hc, hb1, hys1⟩ := den_book hx
      cases e
      have hly := denAll_length hys1
      rw [List.length_map] at hly
      obtain ⟨hn1, hn6, h12, hwk⟩ := book_parts hbk
      have stop : ∀ H1, But t H H1 → Tape K H1 t a ns → ∀ q, H1 q = none → Q (.ref q) (upd H1 q (.lst [.ref p])) := fun H1 b1 T1 q hq => by
        obtain ⟨z, hz⟩ := T
        have npt : p ≠ t := fun e => by rw [e, hz] at hp; cases hp
        have nq : q ≠ t := T1.ne hq
        have s1 := Same.new (o := .lst [.ref p]) hq
        exact k q _ _ (b1.trans (But.of s1)) (T1.same s1) (b1.free hq nq) upd_same (AllT.one (l := b) ⟨p, rfl, s1 _ _ (b1 _ _ npt hp)⟩ (by omega)) (Nat.pos_of_ne_zero (by simp)) (by simp)
      refine ⟨_, rfl, p, _, rfl, .inr (SqT.of hp), _, rfl, c, _, 1, .ref bb, rfl, rfl, hc, rfl, bb, ys, rfl, .inr hb1, rfl, _, rfl, ?_⟩
      rw [List.length_map, hly]
      refine ite2 (fun c1 => ?_) (fun c1 => ?_)
      · exact iteT ⟨_, rfl, sz1 _, fun q hq => stop H (But.refl _ _) T q hq⟩
      have hblt : b.length < ws.length := by
        by_cases z : b.length = ws.length
        · exact absurd (decide_eq_true (by rw [z])) c1
        · omega
      refine ⟨_, rfl, t, a, ns, 3, rfl, T, by decide, by decide, fun r H1 hr0 hr3 b1 T1 => ?_⟩
      refine ⟨rfl, _, rfl, ?_⟩
      refine ite2 (fun c2 => ?_) (fun c2 => ?_)
      · exact ⟨_, rfl, sz1 _, fun q hq => stop H1 b1 T1 q hq⟩
      obtain ⟨z0, hz0⟩ := id T
      have npt : p ≠ t := fun e => by rw [e, hz0] at hp; cases hp
      have hla : ws[b.length]? = some ws[b.length] := List.getElem?_eq_getElem hblt
      have hlm := List.getElem_mem hblt
      generalize ws[b.length] = l at hla hlm
      obtain ⟨hl0, hl1, hl2⟩ := work_parts (hwk l hlm)
      have hl4 := work_short (by omega) hl1 hl2
      obtain ⟨u, hu, hdu⟩ := denAll_get hys1 (i := b.length) (d := workD l) (by rw [List.getElem?_map, hla]; rfl)
      obtain ⟨la, rfl, hua⟩ := den_tints.mp hdu
      refine ⟨size1 (Nat.zero_le _), fun fp0 hfp0 => ?_⟩
      have s2 := Same.new (o := .lst []) hfp0
      have b2 := b1.trans (But.of (t := t) s2)
      have T2 := T1.same s2
      have n2 : H fp0 = none := b1.free hfp0 (T1.ne hfp0)
      have e2 : upd H1 fp0 (.lst []) fp0 = some (.lst []) := upd_same
      generalize upd H1 fp0 (.lst []) = H2 at s2 b2 T2 e2 ⊢
      dsimp only [gName]
      have hpow : 4 ^ (ws.length - b.length) = 4 * 4 ^ (ws.length - (b.length + 1)) := by
        rw [show ws.length - b.length = (ws.length - (b.length + 1)) + 1 by omega, Nat.pow_succ, Nat.mul_comm]
      have hpm : 4 ^ (ws.length - (b.length + 1)) ≤ 4096 := Nat.le_trans (Nat.pow_le_pow_right (by decide) (show ws.length - (b.length + 1) ≤ 6 by omega)) (by decide)
      generalize hM : 4 ^ (ws.length - (b.length + 1)) = M at hpow hpm
      refine ⟨_, rfl, c, _, 1, .ref bb, rfl, rfl, T.seqT b2 hc, rfl, _, rfl, p, _, rfl, .inr (T.seqT b2 (SqT.of hp)), bb, ys, _, .ref la, rfl, rfl, T.seqT b2 hb1, by rw [List.length_map]; exact atI_nat hu, la, rfl, ⟨_, T.seqT b2 hua⟩, for_tup (K := K) (a := la) (xs := l.map V.int) (fun i σ H3 => ∃ fp fs v4, σ = [some (.ref t), some (.ref c), some (.ref p), some (.ref fp), v4] ∧ But t H H3 ∧ Tape K H3 t a ns ∧ H fp = none ∧ H3 fp = some (.lst fs) ∧ AllT H3 7 fs ∧ fs.length ≤ i * M ∧ (0 < i → fs ≠ [])) ⟨fp0, [], none, rfl, b2, T2, n2, e2, AllT.nil, Nat.zero_le _, fun z => absurd z (Nat.lt_irrefl _)⟩ (fun i σ H3 _ h => by obtain ⟨_, _, _, _, b3, _⟩ := h; exact T.seqT b3 hua) ?_ ?_⟩
      · rintro i y σ H3 hy ⟨fp, fs, v4, rfl, b3, T3, nfp, e3, t3, hl3, hne3⟩
        rw [List.getElem?_map] at hy
        obtain ⟨h, hh, rfl⟩ := Option.map_eq_some_iff.mp hy
        have hil : i < l.length := (List.getElem?_eq_some_iff.mp hh).1
        have hiM : i * M ≤ 4 * M := Nat.mul_le_mul_right _ (by omega)
        refine ⟨_, rfl, _, rfl, _, rfl, _, rfl, _, rfl, sz1 _, fun pt hpt => cat3_go (K := K) (SqT.of ((Same.new hpt) _ _ (b3 _ _ npt hp))) upd_same (by rw [List.length_map]; omega) fun p9 H9 s9 hp9 => ?_⟩
        have s39 := (Same.new (o := .tup [.int h]) hpt).trans s9
        have b9 := b3.trans (But.of (t := t) s39)
        refine ⟨t, a, p9, ns, _, n, ws, b ++ [h], rfl, T3.same s39, T.den b9 (noList_book _ _) hx, hbk, hn4, hl7, by rw [hp9, List.map_append]; rfl, by rw [List.length_append, List.length_singleton]; omega, by rw [List.length_append, List.length_singleton]; omega, fun q xs H10 b10 T10 nq hq t10 hl10 hne10 => ?_⟩
        rw [List.length_append, List.length_singleton, hM] at hl10
        obtain ⟨z9, hz9⟩ := T3.same s39
        have nft : fp ≠ t := T.ne nfp
        have e10 := b10 _ _ nft (s39 _ _ e3)
        refine ⟨fp, q, fs, xs, rfl, rfl, e10, hq, by rw [sizeLine_eq]; omega, fun np hnp => ?_⟩
        have s11 := Same.new (o := .lst (fs ++ xs)) hnp
        refine ⟨np, fs ++ xs, _, rfl, (b9.trans b10).trans (But.of s11), T10.same s11, (b9.trans b10).free hnp (T10.ne hnp), upd_same, ((t3.same s39).but hz9 b10 |>.app t10).same s11, by rw [List.length_append, Nat.succ_mul]; omega, fun _ z => hne10 (List.append_eq_nil_iff.mp z).2⟩
      · rintro σ H3 ⟨fp, fs, v4, rfl, b3, T3, nfp, e3, t3, hl3, hne3⟩
        rw [List.length_map] at hl3 hne3
        have hlM : l.length * M ≤ 4 * M := Nat.mul_le_mul_right _ (by omega)
        exact ⟨_, rfl, k fp fs H3 b3 T3 nfp e3 t3 (by rw [hpow]; omega) (hne3 (List.length_pos_iff.mpr hl0))⟩
end
end Ab
set_option Elab.async false
set_option linter.all false
set_option maxRecDepth 100000
namespace Ab
open PySem L2
theorem cut_ints (l : List Int) (lo hi : Option Int) : ∃ l' : List Int, cutV (l.map V.int) lo hi = l'.map V.int ∧ l'.length ≤ l.length := by
  refine ⟨((l.drop (HT.sIx (l.map V.int).length 0 lo)).take (HT.sIx (l.map V.int).length (l.map V.int).length hi - HT.sIx (l.map V.int).length 0 lo)), ?_, ?_⟩
  · unfold cutV
    rw [List.map_take, List.map_drop]
  · rw [List.length_take, List.length_drop]
    exact Nat.le_trans (Nat.min_le_right _ _) (Nat.sub_le _ _)
section
variable {X : Cx}
def rSlE : V → Option Int → Option Int → Hp → VK → Prop := fun x _ _ H Q => ∃ l, TkE H l x ∧ ∀ y l' H', Same H H' → TkE H' l' y → l'.length ≤ l.length → Q y H'
theorem sl_E : SlR X rSlE := by
  intro pins s σ H x v vl vu lo hi sl Q I rx hs pl pu h
  obtain ⟨l, ⟨a, rfl, hx⟩, q⟩ := h
  obtain ⟨l', hl', hll⟩ := cut_ints l lo hi
  by_cases hw : HT.sIx (l.map V.int).length 0 lo = 0 ∧ HT.sIx (l.map V.int).length (l.map V.int).length hi = (l.map V.int).length
  · cases rx
    obtain ⟨its, r, ht, hz⟩ := I.tuple (SqT.of hx)
    have hlen : its.toArray.size = (l.map V.int).length := by rw [List.size_toArray]; exact r.length.symm
    refine ⟨"tuple", _, PyProof.Rows.slot_tuple_getitem.lookup, ht.typeIs, ?_⟩
    exact getItem_tuple_whole ht hs pl pu (by rw [hlen]; exact hw) ⟨.ref a, H, I, rfl, q (.ref a) l H (Same.refl H) ⟨a, rfl, hx⟩ (Nat.le_refl _)⟩
  · exact sl_tup pins s σ H _ v vl vu lo hi sl Q I rx hs pl pu ⟨a, l.map V.int, rfl, SqT.of hx, hw, fun p hp => q _ l' _ (Same.new hp) ⟨p, rfl, by rw [upd_same, hl']⟩ hll⟩
def rCatE : R2 := fun x y H Q => ∃ l m, TkE H l x ∧ TkE H m y ∧ l.length + m.length ≤ 1000 ∧ ∀ z l' H', Same H H' → TkE H' l' z → l'.length ≤ l.length + m.length → Q z H'
theorem cat_E : OpR X (binaryOp .Add) rCatE := by
  intro pins s σ H x y v u Q I rx ry h
  obtain ⟨l, m, ⟨a, rfl, ha⟩, ⟨b, rfl, hb⟩, hz, q⟩ := h
  refine op_cat3 (K := X.K) rfl pins s σ H _ _ v u Q I rx ry ⟨a, b, l.map V.int, m.map V.int, rfl, rfl, SqT.of ha, SqT.of hb, by rw [sizeLine_eq, List.length_map, List.length_map]; omega, fun _ => ?_, fun _ _ => ?_, fun _ _ p hp => ?_⟩
  · exact q _ m H (Same.refl H) ⟨b, rfl, hb⟩ (by omega)
  · exact q _ l H (Same.refl H) ⟨a, rfl, ha⟩ (by omega)
  · exact q _ (l ++ m) _ (Same.new hp) ⟨p, rfl, by rw [upd_same, List.map_append]⟩ (by rw [List.length_append]; exact Nat.le_refl _)
def RowE (H : Hp) (N B : Nat) (y : V) : Prop := ∃ q xs, y = .ref q ∧ H q = some (.lst xs) ∧ AllT H N xs ∧ xs.length ≤ B
theorem RowE.same {H H' : Hp} {N B : Nat} {y : V} (h : RowE H N B y) (s : Same H H') : RowE H' N B y := by
  obtain ⟨q, xs, h1, h2, h3, h4⟩ := h
  exact ⟨q, xs, h1, s _ _ h2, h3.same s, h4⟩
theorem RowE.but {H H' : Hp} {N B : Nat} {y : V} {t : Addr} {ws : List V} (h : RowE H N B y) (ht : H t = some (.lst ws)) (b : But t H H') (n : y ≠ .ref t) : RowE H' N B y := by
  obtain ⟨q, xs, h1, h2, h3, h4⟩ := h
  exact ⟨q, xs, h1, b _ _ (fun z => n (by rw [h1, z])) h2, h3.but ht b, h4⟩
theorem RowE.mono {H : Hp} {N B N' B' : Nat} {y : V} (h : RowE H N B y) (a : N ≤ N') (b : B ≤ B') : RowE H N' B' y := by
  obtain ⟨q, xs, h1, h2, h3, h4⟩ := h
  exact ⟨q, xs, h1, h2, h3.mono a, Nat.le_trans h4 b⟩
theorem RowE.ne {H : Hp} {N B : Nat} {y : V} {t : Addr} (h : RowE H N B y) (ht : H t = none) : y ≠ .ref t := fun z => by
  obtain ⟨q, xs, h1, h2, _⟩ := h
  rw [h1] at z
  cases z
  rw [ht] at h2; cases h2
def rSlR : V → Option Int → Option Int → Hp → VK → Prop := fun x _ _ H Q => ∃ N B, RowE H N B x ∧ ∀ q H', Same H H' → H q = none → RowE H' N B (.ref q) → Q (.ref q) H'
theorem sl_R : SlR X rSlR := by
  intro pins s σ H x v vl vu lo hi sl Q I rx hs pl pu h
  obtain ⟨N, B, ⟨a, xs, rfl, hx, hA, hB⟩, q⟩ := h
  refine sl_list pins s σ H _ v vl vu lo hi sl Q I rx hs pl pu ⟨a, xs, rfl, SqL.of hx, fun p hp => q p _ (Same.new hp) hp ⟨p, _, rfl, upd_same, ?_, Nat.le_trans (cutV_length xs lo hi) hB⟩⟩
  exact (hA.sub fun y hy => cutV_mem hy).same (Same.new hp)
def rCatR : R2 := fun x y H Q => ∃ N B C, RowE H N B x ∧ RowE H N C y ∧ B + C ≤ 200000 ∧ ∀ q H', Same H H' → H q = none → RowE H' N (B + C) (.ref q) → Q (.ref q) H'
theorem cat_R : OpR X (binaryOp .Add) rCatR := by
  intro pins s σ H x y v u Q I rx ry h
  obtain ⟨N, B, C, ⟨a, xs, rfl, hx, hA, hB⟩, ⟨b, zs, rfl, hy, hC, hD⟩, hz, q⟩ := h
  refine op_cat pins s σ H _ _ v u Q I rx ry ⟨a, b, xs, zs, rfl, rfl, hx, hy, by rw [sizeLine_eq]; omega, fun p hp => q p _ (Same.new hp) hp ⟨p, _, rfl, upd_same, (hA.app hC).same (Same.new hp), ?_⟩⟩
  rw [List.length_append]
  omega
def RowsE (H : Hp) (S : Addr) (N B : Nat) (rows : List V) : Prop := H S = some (.lst rows) ∧ ∀ y ∈ rows, RowE H N B y ∧ y ≠ .ref S
theorem RowsE.same {H H' : Hp} {S : Addr} {N B : Nat} {rows : List V} (h : RowsE H S N B rows) (s : Same H H') : RowsE H' S N B rows := ⟨s _ _ h.1, fun y hy => ⟨(h.2 y hy).1.same s, (h.2 y hy).2⟩⟩
theorem RowsE.fresh {H : Hp} {p : Addr} {N B : Nat} {rows : List V} (hp : H p = none) (h : ∀ y ∈ rows, RowE H N B y) : RowsE (upd H p (.lst rows)) p N B rows := ⟨upd_same, fun y hy => ⟨(h y hy).same (Same.new hp), (h y hy).ne hp⟩⟩
theorem RowsE.push {H : Hp} {S : Addr} {N B : Nat} {rows : List V} {y : V} (h : RowsE H S N B rows) (hy : RowE H N B y) (n : y ≠ .ref S) : RowsE (upd H S (.lst (rows ++ [y]))) S N B (rows ++ [y]) := ⟨upd_same, fun z hz => by
  rcases List.mem_append.mp hz with hz | hz
  · exact ⟨(h.2 z hz).1.but h.1 But.at (h.2 z hz).2, (h.2 z hz).2⟩
  · rw [List.mem_singleton] at hz
    subst hz
    exact ⟨hy.but h.1 But.at n, n⟩⟩
end
end Ab
set_option Elab.async false
set_option linter.all false
set_option maxRecDepth 100000
namespace Ab
open PySem L2
theorem RowE.tape {K : PySem.W.Frag} {H : Hp} {N B : Nat} {y : V} {t a : Addr} {ns : List Int} (h : RowE H N B y) (T : Tape K H t a ns) : y ≠ .ref t := fun z => by
  obtain ⟨q, xs, h1, h2, h3, _⟩ := h
  obtain ⟨i, hi⟩ := T
  rw [h1] at z
  cases z
  rw [hi] at h2
  cases h2
  obtain ⟨l, ⟨p, h5, _⟩, _⟩ := h3 _ List.mem_cons_self
  cases h5
theorem RowE.unit {H : Hp} {z p : Addr} {N : Nat} (hz : H z = none) (hp : upd H z (.tup []) p = none) : RowE (upd (upd H z (.tup [])) p (.lst [.ref z])) N 1 (.ref p) :=
  ⟨p, _, rfl, upd_same, AllT.one (l := []) ⟨z, rfl, (Same.new hp) _ _ upd_same⟩ (Nat.zero_le _), Nat.le_refl _⟩
theorem RowE.empty {H : Hp} {p : Addr} {N B : Nat} : RowE (upd H p (.lst [])) N B (.ref p) := ⟨p, _, rfl, upd_same, AllT.nil, Nat.zero_le _⟩
theorem RowE.rev {H : Hp} {N B : Nat} {q p : Addr} {xs : List V} (h : H q = some (.lst xs)) (R : RowE H N B (.ref q)) (hp : H p = none) : RowE (upd H p (.lst xs.reverse)) N B (.ref p) := by
  obtain ⟨q', xs', h1, h2, h3, h4⟩ := R
  cases h1
  rw [h] at h2
  cases h2
  exact ⟨p, _, rfl, upd_same, (h3.sub fun y hy => List.mem_reverse.mp hy).same (Same.new hp), by rw [List.length_reverse]; exact h4⟩
theorem RowsE.butT {K : PySem.W.Frag} {H H' : Hp} {S t a : Addr} {ns : List Int} {N B : Nat} {rows : List V} (h : RowsE H S N B rows) (T : Tape K H t a ns) (b : But t H H') (n : S ≠ t) : RowsE H' S N B rows := by
  obtain ⟨z, hz⟩ := id T
  exact ⟨b _ _ n h.1, fun y hy => ⟨(h.2 y hy).1.but hz b ((h.2 y hy).1.tape T), (h.2 y hy).2⟩⟩
section
variable {P : Program} {w : World} {K : PySem.W.Frag} {mg : Str → Option Value} {base : Heap}
def spAll (K : PySem.W.Frag) : Sp := fun vs H Q _ => ∃ (t a bp : Addr) (ns : List Int) (x : V) (n : Int) (ws : List (List Int)), vs = [.ref t, x, .ref bp] ∧ Tape K H t a ns ∧ Den K H (bookD n ws) x ∧ isBook (bookD n ws) = true ∧ n ≤ 4 ∧ ws.length ≤ 7 ∧ RowE H 7 21845 (.ref bp) ∧ ∀ S rows H', But t H H' → Tape K H' t a ns → H S = none → RowsE H' S 20 50000 rows → rows.length ≤ 200 → Q (.ref S) H'
theorem scAll : FnScope ["tape", "book", "bars", "found", "turn", "own", "at", "begun", "others", "k", "other"] ["tape", "book", "bars"] (defScope sAll) := ⟨rfl, rfl, rfl, by decide +kernel, rfl, by decide +kernel, by decide +kernel⟩
set_option maxHeartbeats 4000000 in
theorem ok_all {f fD fG fA : Addr} {fd dD dG dA : FuncData} (G : Fn K mg "_law_aall" sAll ["tape", "book", "bars"] f fd) (B : Bl mg) (GD : Fn K mg "_law_adigit" sADigit ["tape", "many"] fD dD) (OD : FnOk P w K mg base CX0 1 fD dD ["tape", "many"] (spDigit K)) (GGr : Fn K mg "_law_agrown" sGrown ["tape", "book", "begun"] fG dG) (GAd : Fn K mg "_law_aall_deals" sAllD ["book"] fA dA) (OAd : FnOk P w K mg base CX0 1 fA dA ["book"] (spAllD K)) : FnOk P w K mg base CX0 10 f fd ["tape", "book", "bars"] (spAll K) := by
  have OGr : FnOk P w K mg base CX0 9 fG dG ["tape", "book", "begun"] (spGrown K 8) := ok_grown GGr B GD OD 8
  refine G.fn.ok scAll (fun vs H Q E h => ?_) (fun cdv A outer s H vs Q E hr h => ?_)
  · obtain ⟨t, a, bp, ns, x, n, ws, rfl, _⟩ := h
    rfl
  · obtain ⟨t, a, bp, ns, x, n, ws, rfl, T, hx, hbk, hn4, hl7, Rb, k⟩ := h
    have r1 : Room 1 _ := hr.mono (by decide)
    have rG : Room 9 _ := hr
    refine ⟨_, (pss_cons (ps_set (i := 3) scAll.nd rfl (Or.inl rfl) (pe_lst (pa_cons (pv 2) (pa_cons (pe_lst pa_nil) (pa_cons (pe_lst (pa_cons (pe_tup pa_nil) pa_nil)) (pa_cons (pe_slice sl_R (pe_fn GAd OAd r1 rfl (pa_cons (pv 1) pa_nil)) po_none (po_some pe_int)) (pa_cons (pe_revL (pv 2) (pe_un un_neg pe_int)) (pa_cons (pe_op cat_R (pv 2) (pe_lst (pa_cons (pe_tup pa_nil) pa_nil))) (pa_cons (pe_op cat_R (pe_lst (pa_cons (pe_tup pa_nil) pa_nil)) (pv 2)) pa_nil)))))))))
    (pss_cons (ps_for PassesOwn.never rfl (pi_range1 rfl B.range (pa_cons pe_int pa_nil)) (pg_name (i := 4) scAll.nd rfl (Or.inl rfl))
      (pss_cons (ps_set (i := 5) scAll.nd rfl (Or.inl rfl) (pe_fn GGr OGr rG rfl (pa_cons (pv 0) (pa_cons (pv 1) (pa_cons (pe_tup pa_nil) pa_nil)))))
    (pss_cons (ps_set (i := 6) scAll.nd rfl (Or.inl rfl) (pe_fn GD OD r1 rfl (pa_cons (pv 0) (pa_cons (pe_callB call_len_seq rfl B.len b_len (pa_cons (pv 5) pa_nil)) pa_nil))))
    (pss_one (ps_set (i := 3) scAll.nd rfl (Or.inl rfl) (pe_op op_cat (pv 3) (pe_lst (pa_cons (pv 5) (pa_cons (pe_op cat_R (pe_slice sl_R (pv 5) po_none (po_some (pv 6))) (pe_slice sl_R (pv 5) (po_some (pe_op op_add (pv 6) pe_int)) po_none)) (pa_cons (pe_op cat_R (pe_op cat_R (pe_slice sl_R (pv 5) po_none (po_some (pv 6))) (pe_lst (pa_cons (pe_slice sl_E (pe_ix ix_list (pv 5) (pv 6) (fun _ _ => rfl)) po_none (po_some (pe_un un_neg pe_int))) pa_nil))) (pe_slice sl_R (pv 5) (po_some (pe_op op_add (pv 6) pe_int)) po_none)) pa_nil))))))))))
    (pss_cons (ps_for PassesOwn.never rfl (pi_range1 rfl B.range (pa_cons (pe_callB (call_min2 rfl) rfl B.min b_min (pa_cons pe_int (pa_cons (pe_callB call_len_seq rfl B.len b_len (pa_cons (pv 2) pa_nil)) pa_nil))) pa_nil)) (pg_name (i := 4) scAll.nd rfl (Or.inl rfl))
      (pss_cons (ps_set (i := 6) scAll.nd rfl (Or.inl rfl) (pe_fn GD OD r1 rfl (pa_cons (pv 0) (pa_cons (pe_callB call_len_seq rfl B.len b_len (pa_cons (pv 2) pa_nil)) pa_nil))))
    (pss_cons (ps_set (i := 7) scAll.nd rfl (Or.inl rfl) (pe_ix ix_list (pv 2) (pv 6) (fun _ _ => rfl)))
    (pss_cons (ps_set (i := 8) scAll.nd rfl (Or.inl rfl) (pe_lst (pa_cons (pe_slice sl_E (pv 7) po_none (po_some (pe_un un_neg pe_int))) (pa_cons (pe_op cat_E (pv 7) (pe_tup (pa_cons pe_int pa_nil))) (pa_cons (pe_rev (pv 7) (pe_un un_neg pe_int)) (pa_cons (pe_op cat_E (pv 7) (pe_slice sl_E (pv 7) (po_some (pe_un un_neg pe_int)) po_none)) (pa_cons (pe_op cat_E (pv 7) (pe_tup (pa_cons (pe_ix ix_tup (pv 1) pe_int (fun _ _ => rfl)) pa_nil))) (pa_cons (pe_op cat_E (pv 7) (pe_tup (pa_cons (pe_op op_pow pe_int pe_int) pa_nil))) pa_nil))))))))
    (pss_cons (ps_for PassesOwn.never rfl (pi_range1 rfl B.range (pa_cons (pe_callB call_len_seq rfl B.len b_len (pa_cons (pv 7) pa_nil)) pa_nil)) (pg_name (i := 9) scAll.nd rfl (Or.inl rfl))
      (pss_one (ps_expr (pe_bm PySem.F.plainAttrs_list PySem.F.slot_list_append PySem.F.type_list_append mt_append (pv 8) (pa_cons (pe_op cat_E (pe_op cat_E (pe_slice sl_E (pv 7) po_none (po_some (pv 9))) (pe_tup (pa_cons (pe_op op_sub (pe_fn GD OD r1 rfl (pa_cons (pv 0) (pa_cons pe_int pa_nil))) pe_int) pa_nil))) (pe_slice sl_E (pv 7) (po_some (pe_op op_add (pv 9) pe_int)) po_none)) pa_nil)))))
    (pss_cons (ps_for PassesOwn.never rfl (pi_list (pv 8)) (pg_name (i := 10) scAll.nd rfl (Or.inl rfl))
      (pss_cons (ps_expr (pe_bm PySem.F.plainAttrs_list PySem.F.slot_list_append PySem.F.type_list_append mt_append (pv 3) (pa_cons (pe_op cat_R (pe_op cat_R (pe_slice sl_R (pv 2) po_none (po_some (pv 6))) (pe_lst (pa_cons (pv 10) pa_nil))) (pe_slice sl_R (pv 2) (po_some (pe_op op_add (pv 6) pe_int)) po_none)) pa_nil)))
    (pss_one (ps_set (i := 3) scAll.nd rfl (Or.inl rfl) (pe_op op_cat (pv 3) (pe_lst (pa_cons (pe_op cat_R (pe_op cat_R (pe_slice sl_R (pv 2) po_none (po_some (pv 6))) (pe_lst (pa_cons (pv 10) pa_nil))) (pe_slice sl_R (pv 2) (po_some (pv 6)) po_none)) (pa_cons (pe_op cat_R (pv 2) (pe_lst (pa_cons (pv 10) pa_nil))) pa_nil))))))))
    (pss_one (ps_set (i := 3) scAll.nd rfl (Or.inl rfl) (pe_op op_cat (pv 3) (pe_lst (pa_cons (pe_op cat_R (pe_slice sl_R (pv 2) po_none (po_some (pv 6))) (pe_slice sl_R (pv 2) (po_some (pe_op op_add (pv 6) pe_int)) po_none)) (pa_cons (pe_op cat_R (pe_slice sl_R (pv 2) po_none (po_some (pe_op op_add (pv 6) pe_int))) (pe_slice sl_R (pv 2) (po_some (pv 6)) po_none)) pa_nil))))))))))))
    (pss_one (ps_ret (pv 3)))))), ?_⟩
    obtain ⟨c, bb, ys, e, hc, hb1, hys1⟩ := den_book hx
    cases e
    obtain ⟨bp', bxs, e, hbp, hbA, hbl⟩ := id Rb
    cases e
    refine ⟨_, rfl, size1 (Nat.zero_le _), fun p1 h1 => ?_⟩
    have R1 : RowE (upd H p1 (.lst [])) 7 21845 (.ref p1) := RowE.empty
    have s1 := Same.new (o := .lst []) h1
    generalize upd H p1 (.lst []) = H1 at s1 R1 ⊢
    refine ⟨size1 (Nat.zero_le _), fun z2 hz2 => ⟨sz1 _, fun p2 h2 => ?_⟩⟩
    have R2 : RowE _ 7 1 (.ref p2) := RowE.unit hz2 h2
    have s2 := s1.trans ((Same.new (o := .tup []) hz2).trans (Same.new (o := .lst [.ref z2]) h2))
    have R1 := R1.same ((Same.new (o := .tup []) hz2).trans (Same.new (o := .lst [.ref z2]) h2))
    generalize upd (upd H1 z2 (.tup [])) p2 (.lst [.ref z2]) = H2 at s2 R1 R2 ⊢
    refine ⟨_, rfl, .ref c, n, ws, rfl, s2.den _ _ hx, hbk, hn4, hl7, fun p3 xs3 H3 s3 n3 e3 t3 l3 => ?_⟩
    refine ⟨_, rfl, 7, 16384, ⟨p3, xs3, rfl, e3, t3, l3⟩, fun p4 H4 s4 n4 R4 => ?_⟩
    have R1 := R1.same (s3.trans s4)
    have R2 := R2.same (s3.trans s4)
    have s4 := s2.trans (s3.trans s4)
    refine ⟨_, rfl, _, rfl, rfl, bp, bxs, rfl, SqL.of (s4 _ _ hbp), fun p5 h5 => ?_⟩
    have R5 := RowE.rev (s4 _ _ hbp) (Rb.same s4) h5
    have s5 := Same.new (o := .lst bxs.reverse) h5
    have R1 := R1.same s5
    have R2 := R2.same s5
    have R4 := R4.same s5
    have s5 := s4.trans s5
    generalize upd H4 p5 (.lst bxs.reverse) = H5 at s5 R1 R2 R4 R5 ⊢
    refine ⟨_, rfl, size1 (Nat.zero_le _), fun z6 hz6 => ⟨sz1 _, fun p6 h6 => ?_⟩⟩
    have R6 : RowE _ 7 1 (.ref p6) := RowE.unit hz6 h6
    have s6 := (Same.new (o := .tup []) hz6).trans (Same.new (o := .lst [.ref z6]) h6)
    refine ⟨7, 21845, 1, (Rb.same s5).same s6, R6, by decide, fun p7 H7 s7 n7 R7 => ?_⟩
    have s67 := s6.trans s7
    have R1 := R1.same s67
    have R2 := R2.same s67
    have R4 := R4.same s67
    have R5 := R5.same s67
    have s7 := s5.trans s67
    refine ⟨size1 (Nat.zero_le _), fun z8 hz8 => ⟨sz1 _, fun p8 h8 => ?_⟩⟩
    have R8 : RowE _ 7 1 (.ref p8) := RowE.unit hz8 h8
    have s8 := (Same.new (o := .tup []) hz8).trans (Same.new (o := .lst [.ref z8]) h8)
    refine ⟨_, rfl, 7, 1, 21845, R8, (Rb.same s7).same s8, by decide, fun p9 H9 s9 n9 R9 => ?_⟩
    have s89 := s8.trans s9
    have R1 := R1.same s89
    have R2 := R2.same s89
    have R4 := R4.same s89
    have R5 := R5.same s89
    have R7 := R7.same s89
    have s9 := s7.trans s89
    refine ⟨size1 (by show 7 ≤ 1000; decide), fun S hS => ?_⟩
    have W0 : RowsE _ S 20 50000 _ := RowsE.fresh hS (rows := [.ref bp, .ref p1, .ref p2, .ref p4, .ref p5, .ref p7, .ref p9]) fun y hy => by
      simp only [List.mem_cons, List.not_mem_nil, or_false] at hy
      rcases hy with rfl | rfl | rfl | rfl | rfl | rfl | rfl
      · exact (Rb.same s9).mono (by decide) (by decide)
      · exact R1.mono (by decide) (by decide)
      · exact R2.mono (by decide) (by decide)
      · exact R4.mono (by decide) (by decide)
      · exact R5.mono (by decide) (by decide)
      · exact R7.mono (by decide) (by decide)
      · exact R9.mono (by decide) (by decide)
    have s10 := s9.trans (Same.new (o := .lst [.ref bp, .ref p1, .ref p2, .ref p4, .ref p5, .ref p7, .ref p9]) hS)
    have nS : H S = none := s9.free hS
    generalize upd H9 S (.lst [.ref bp, .ref p1, .ref p2, .ref p4, .ref p5, .ref p7, .ref p9]) = H10 at W0 s10 ⊢
    clear R1 R2 R4 R5 R7 R9
    dsimp only [gName]
    obtain ⟨J, hJ⟩ : ∃ J : Nat → St → Hp → Prop, J = fun M σ H3 => ∃ S rows v4 v5 v6 v7 v8 v9 v10, σ = [some (.ref t), some (.ref c), some (.ref bp), some (.ref S), v4, v5, v6, v7, v8, v9, v10] ∧ But t H H3 ∧ Tape K H3 t a ns ∧ H S = none ∧ RowsE H3 S 20 50000 rows ∧ rows.length ≤ M := ⟨_, rfl⟩
    refine ⟨2, rfl, by decide, by decide, for_range (lo := 0) (n := ((2 : Int)).toNat) (fun i σ H3 => J (7 + 3 * i) σ H3) (by rw [hJ]; exact ⟨S, _, none, none, none, none, none, none, none, rfl, But.of s10, T.same s10, nS, W0, by show 7 ≤ _; omega⟩) ?_ ?_⟩
    · rintro i σ H3 hi hI
      rw [hJ] at hI
      obtain ⟨S, rows, v4, v5, v6, v7, v8, v9, v10, rfl, b3, T3, nS, W3, hl3⟩ := hI
      refine ⟨_, rfl, _, rfl, size1 (Nat.zero_le _), fun z4 hz4 => ?_⟩
      have s4 := Same.new (o := .tup []) hz4
      have b4 := b3.trans (But.of (t := t) s4)
      refine ⟨t, a, z4, ns, .ref c, n, ws, [], rfl, T3.same s4, T.den b4 (noList_book _ _) hx, hbk, hn4, hl7, upd_same, Nat.zero_le _, by show ws.length < 0 + 8; omega, fun q xs H5 b5 T5 nq hq t5 l5 ne5 => ?_⟩
      have nSt : S ≠ t := T.ne nS
      have l5 : xs.length ≤ 16384 := Nat.le_trans l5 (Nat.le_trans (Nat.pow_le_pow_right (by decide) (show ws.length - 0 ≤ 7 by omega)) (by decide))
      have W4 := W3.same s4
      have W5 : RowsE H5 S 20 50000 rows := W4.butT (T3.same s4) b5 nSt
      have b05 := b4.trans b5
      dsimp only [gName]
      have hpos : 0 < xs.length := List.length_pos_iff.mpr ne5
      refine ⟨_, rfl, _, rfl, q, xs, rfl, .inl (SqL.of hq), t, a, ns, xs.length, rfl, T5, by omega, by omega, fun r H6 hr0 hr1 b6 T6 => ?_⟩
      have Rq : RowE H5 7 16384 (.ref q) := ⟨q, xs, rfl, hq, t5, l5⟩
      have nqt : q ≠ t := fun z => Rq.tape T5 (by rw [z])
      obtain ⟨z5, hz5⟩ := id T5
      have Rq : RowE H6 7 16384 (.ref q) := Rq.but hz5 b6 (Rq.tape T5)
      have hq := b6 _ _ nqt hq
      have t5 := t5.but hz5 b6
      have W6 := W5.butT T5 b6 nSt
      have b6 := b05.trans b6
      dsimp only [gName]
      obtain ⟨m, rfl⟩ : ∃ m : Nat, r = (m : Int) := ⟨r.toNat, by omega⟩
      have hm : m < xs.length := by omega
      obtain ⟨l, ⟨pa, epa, hpa⟩, hla⟩ := t5 xs[m] (List.getElem_mem _)
      have hat : atI xs (m : Int) = some (.ref pa) := atI_nat (by rw [← epa]; exact List.getElem?_eq_getElem _)
      refine ⟨_, rfl, _, rfl, _, rfl, _, rfl, _, rfl, 7, 16384, Rq, fun p7 H7 s7 n7 R7 => ?_⟩
      refine ⟨_, rfl, _, rfl, _, _, rfl, rfl, _, rfl, 7, 16384, Rq.same s7, fun p8 H8 s8 n8 R8 => ?_⟩
      refine ⟨7, 16384, 16384, R7.same s8, R8, by decide, fun p9 H9 s9 n9 R9 => ?_⟩
      have s69 := s7.trans (s8.trans s9)
      have Rq9 := Rq.same s69
      have hq9 := s69 _ _ hq
      refine ⟨_, rfl, _, rfl, _, rfl, 7, 16384, Rq9, fun p10 H10 s10 n10 R10 => ?_⟩
      refine ⟨_, rfl, _, rfl, q, xs, _, .ref pa, rfl, rfl, SqL.of (s10 _ _ hq9), hat, _, rfl, _, rfl, l, ⟨pa, rfl, s10 _ _ (s69 _ _ hpa)⟩, fun y11 l11 H11 s11 t11 ll11 => ⟨sz1 _, fun p12 h12 => ?_⟩⟩
      have s12 := Same.new (o := .lst [y11]) h12
      have R12 : RowE (upd H11 p12 (.lst [y11])) 7 1 (.ref p12) := ⟨p12, _, rfl, upd_same, AllT.one (t11.same s12) (by omega), Nat.le_refl _⟩
      have s1012 := s11.trans s12
      generalize upd H11 p12 (.lst [y11]) = H12 at s12 R12 s1012 ⊢
      refine ⟨7, 16384, 1, R10.same s1012, R12, by decide, fun p13 H13 s13 n13 R13 => ?_⟩
      have s913 := s10.trans (s1012.trans s13)
      refine ⟨_, rfl, _, rfl, _, _, rfl, rfl, _, rfl, 7, 16384, Rq9.same s913, fun p14 H14 s14 n14 R14 => ?_⟩
      refine ⟨7, 16384 + 1, 16384, R13.same s14, R14, by decide, fun p15 H15 s15 n15 R15 => ⟨size1 (by show 3 ≤ 1000; decide), fun lp hlp => ?_⟩⟩
      have s915 := s913.trans (s14.trans s15)
      have s16 := Same.new (o := .lst [.ref q, .ref p9, .ref p15]) hlp
      have e16 : upd H15 lp (.lst [.ref q, .ref p9, .ref p15]) lp = some (.lst [.ref q, .ref p9, .ref p15]) := upd_same
      have s616 := s69.trans (s915.trans s16)
      have W16 := W6.same s616
      have A16 : ∀ y ∈ [V.ref q, V.ref p9, V.ref p15], RowE (upd H15 lp (.lst [.ref q, .ref p9, .ref p15])) 20 50000 y := fun y hy => by
        simp only [List.mem_cons, List.not_mem_nil, or_false] at hy
        rcases hy with rfl | rfl | rfl
        · exact (Rq.same s616).mono (by decide) (by decide)
        · exact (R9.same (s915.trans s16)).mono (by decide) (by decide)
        · exact (R15.same s16).mono (by decide) (by decide)
      generalize upd H15 lp (.lst [.ref q, .ref p9, .ref p15]) = H16 at s16 e16 s616 W16 A16 ⊢
      refine ⟨S, lp, rows, _, rfl, rfl, W16.1, e16, by rw [sizeLine_eq]; show _ + 3 ≤ _; omega, fun S2 hS2 => ?_⟩
      have s17 := Same.new (o := .lst (rows ++ [.ref q, .ref p9, .ref p15])) hS2
      have b17 := b6.trans (But.of (t := t) (s616.trans s17))
      rw [hJ]
      refine ⟨S2, _, _, _, _, _, _, _, _, rfl, b17, T6.same (s616.trans s17), (b6.trans (But.of (t := t) s616)).free hS2 ((T6.same s616).ne hS2), RowsE.fresh hS2 (fun y hy => ?_), ?_⟩
      · rcases List.mem_append.mp hy with hy | hy
        · exact (W16.2 y hy).1
        · exact A16 y hy
      · rw [List.length_append]
        show _ + 3 ≤ _
        omega
    rintro σ H3 hI
    rw [hJ] at hI
    obtain ⟨S, rows, v4, v5, v6, v7, v8, v9, v10, rfl, b3, T3, nS, W3, hl3⟩ := hI
    have hmn : 0 ≤ (if (bxs.length : Int) < 2 then (bxs.length : Int) else 2) ∧ (if (bxs.length : Int) < 2 then (bxs.length : Int) else 2) ≤ 2 := by split <;> omega
    obtain ⟨mn, hmn1⟩ : ∃ mn : Int, mn = (if (bxs.length : Int) < 2 then (bxs.length : Int) else 2) := ⟨_, rfl⟩
    have hmn2 : (mn.toNat : Int) ≤ bxs.length ∧ mn.toNat ≤ 2 := by rw [hmn1]; split <;> omega
    have nbt : bp ≠ t := fun z => Rb.tape T (by rw [z])
    obtain ⟨z0, hz0⟩ := id T
    refine ⟨_, rfl, bp, bxs, rfl, .inl (SqL.of (b3 _ _ nbt hbp)), 2, bxs.length, rfl, mn, by rw [hmn1], by omega, by omega, for_range (lo := 0) (n := mn.toNat) (fun i σ H3 => J (13 + 41 * i) σ H3) (by rw [hJ]; exact ⟨S, rows, v4, v5, v6, v7, v8, v9, v10, rfl, b3, T3, nS, W3, by have : ((2 : Int)).toNat = 2 := rfl; omega⟩) ?_ ?_⟩
    · clear W3 T3 b3
      rintro i σ H3 hi hI
      rw [hJ] at hI
      obtain ⟨S, rows, v4, v5, v6, v7, v8, v9, v10, rfl, b3, T3, nS, W3, hl3⟩ := hI
      have nSt : S ≠ t := T.ne nS
      have hbp3 := b3 _ _ nbt hbp
      refine ⟨_, rfl, _, rfl, bp, bxs, rfl, .inl (SqL.of hbp3), t, a, ns, bxs.length, rfl, T3, by omega, by omega, fun r H4 hr0 hr1 b4 T4 => ?_⟩
      have W4 := W3.butT T3 b4 nSt
      have b4 := b3.trans b4
      have hbp4 := b4 _ _ nbt hbp
      have Rb4 := Rb.but hz0 b4 (Rb.tape T)
      obtain ⟨m, rfl⟩ : ∃ m : Nat, r = (m : Int) := ⟨r.toNat, by omega⟩
      have hm : m < bxs.length := by omega
      obtain ⟨l, ⟨pa, epa, hpa⟩, hla⟩ := (hbA.but hz0 b4) bxs[m] (List.getElem_mem _)
      have hat : atI bxs (m : Int) = some (.ref pa) := atI_nat (by rw [← epa]; exact List.getElem?_eq_getElem _)
      dsimp only [gName]
      refine ⟨_, rfl, _, rfl, bp, bxs, _, .ref pa, rfl, rfl, SqL.of hbp4, hat, ?_⟩
      dsimp only [gName]
      have tpa0 : TkE H4 l (.ref pa) := ⟨pa, rfl, hpa⟩
      refine ⟨_, rfl, _, rfl, _, rfl, l, tpa0, fun y1 l1 H5 s5 t1 ll1 => ?_⟩
      refine ⟨_, rfl, sz1 _, fun z6 hz6 => ⟨l, [0], (tpa0.same s5).same (Same.new hz6), ⟨z6, rfl, upd_same⟩, by show _ + 1 ≤ _; omega, fun y2 l2 H6 s6 t2 ll2 => ?_⟩⟩
      have s6 := (Same.new (o := .tup [.int 0]) hz6).trans s6
      have t1 := t1.same s6
      have s46 := s5.trans s6
      refine ⟨_, rfl, _, rfl, rfl, pa, _, rfl, SqT.of (s46 _ _ hpa), fun p7 h7 => ?_⟩
      have s7 := Same.new (o := .tup (l.map V.int).reverse) h7
      have t3 : TkE (upd H6 p7 (.tup (l.map V.int).reverse)) l.reverse (.ref p7) := ⟨p7, rfl, by rw [upd_same, List.map_reverse]⟩
      have t1 := t1.same s7
      have t2 := t2.same s7
      have s47 := s46.trans s7
      generalize upd H6 p7 (.tup (l.map V.int).reverse) = H7 at s47 t1 t2 t3 ⊢
      refine ⟨_, rfl, _, rfl, _, rfl, _, rfl, l, tpa0.same s47, fun y8 l8 H8 s8 t8 ll8 => ⟨l, l8, (tpa0.same s47).same s8, t8, by omega, fun y4 l4 H9 s9 t4 ll4 => ?_⟩⟩
      have s79 := s8.trans s9
      have t1 := t1.same s79
      have t2 := t2.same s79
      have t3 := t3.same s79
      have s49 := s47.trans s79
      refine ⟨_, rfl, _, rfl, c, _, 0, .int n, rfl, rfl, (T.seqT b4 hc |> s49.seqT), rfl, sz1 _, fun z10 hz10 => ⟨l, [n], (tpa0.same s49).same (Same.new hz10), ⟨z10, rfl, upd_same⟩, by show _ + 1 ≤ _; omega, fun y5 l5 H10 s10 t5 ll5 => ?_⟩⟩
      have s10 := (Same.new (o := .tup [.int n]) hz10).trans s10
      have t1 := t1.same s10
      have t2 := t2.same s10
      have t3 := t3.same s10
      have t4 := t4.same s10
      have s410 := s49.trans s10
      refine ⟨_, rfl, _, _, rfl, rfl, ⟨by decide, by decide, by decide⟩, sz1 _, fun z11 hz11 => ⟨l, [(10 : Int) ^ (20 : Int).toNat], (tpa0.same s410).same (Same.new hz11), ⟨z11, rfl, upd_same⟩, by show _ + 1 ≤ _; omega, fun y6 l6 H11 s11 t6 ll6 => ⟨size1 (by show 6 ≤ 1000; decide), fun op hop => ?_⟩⟩⟩
      have s11 := (Same.new (o := .tup [.int ((10 : Int) ^ (20 : Int).toNat)]) hz11).trans s11
      have s411 := s410.trans s11
      have s12 := Same.new (o := .lst [y1, y2, .ref p7, y4, y5, y6]) hop
      have eop : upd H11 op (.lst [y1, y2, .ref p7, y4, y5, y6]) op = some (.lst [y1, y2, .ref p7, y4, y5, y6]) := upd_same
      have A12 : AllT (upd H11 op (.lst [y1, y2, .ref p7, y4, y5, y6])) 20 [y1, y2, .ref p7, y4, y5, y6] := fun y hy => by
        simp only [List.mem_cons, List.not_mem_nil, or_false] at hy
        have q1 : ([0] : List Int).length = 1 := rfl
        have q2 : ([n] : List Int).length = 1 := rfl
        have q3 : ([(10 : Int) ^ (20 : Int).toNat] : List Int).length = 1 := rfl
        rcases hy with rfl | rfl | rfl | rfl | rfl | rfl
        · exact ⟨l1, (t1.same s11).same s12, by omega⟩
        · exact ⟨l2, (t2.same s11).same s12, by omega⟩
        · exact ⟨_, (t3.same s11).same s12, by rw [List.length_reverse]; omega⟩
        · exact ⟨l4, (t4.same s11).same s12, by omega⟩
        · exact ⟨l5, (t5.same s11).same s12, by omega⟩
        · exact ⟨l6, t6.same s12, by omega⟩
      have W11 := W4.same s411
      have nop : H op = none := (b4.trans (But.of (t := t) s411)).free hop ((T4.same s411).ne hop)
      have hro : ∀ y ∈ rows, y ≠ .ref op := fun y hy => (W11.2 y hy).1.ne hop
      have nSo : S ≠ op := fun z => by rw [← z, W11.1] at hop; cases hop
      have nto : t ≠ op := fun z => (T4.same s411).ne hop z.symm
      have W12 := W11.same s12
      have b12 := b4.trans (But.of (t := t) (s411.trans s12))
      have T12 := T4.same (s411.trans s12)
      have tpa : TkE H l (.ref pa) := by
        obtain ⟨l', h1, h2⟩ := hbA bxs[m] (List.getElem_mem _)
        rw [epa] at h1
        obtain ⟨p', e', h3⟩ := h1
        cases e'
        have npt : pa ≠ t := fun z => by rw [z, hz0] at h3; cases h3
        have h4 := b4 _ _ npt h3
        rw [hpa] at h4
        injection h4 with h4
        injection h4 with h4
        rw [map_int_inj h4]
        exact ⟨pa, rfl, h3⟩
      generalize upd H11 op (.lst [y1, y2, .ref p7, y4, y5, y6]) = H12 at eop A12 W12 b12 T12 ⊢
      clear t1 t2 t3 t4 t5 t6 W11
      dsimp only [gName]
      have q6 : ([y1, y2, V.ref p7, y4, y5, y6] : List V).length = 6 := rfl
      refine ⟨_, rfl, pa, l.map V.int, rfl, .inr ((tpa.but hz0 b12).sq), ?_⟩
      rw [List.length_map]
      refine ⟨l.length, rfl, by omega, by omega, for_range (lo := 0) (n := ((l.length : Int)).toNat) (fun j σ H5 => ∃ os v9, σ = [some (.ref t), some (.ref c), some (.ref bp), some (.ref S), some (.int (0 + (i : Int))), v5, some (.int (m : Int)), some (.ref pa), some (.ref op), v9, v10] ∧ But t H H5 ∧ Tape K H5 t a ns ∧ RowsE H5 S 20 50000 rows ∧ H5 op = some (.lst os) ∧ AllT H5 20 os ∧ os.length ≤ 6 + j) ⟨_, v9, rfl, b12, T12, W12, eop, A12, by omega⟩ ?_ ?_⟩
      · rintro j σ H5 hj ⟨os, v9, rfl, b5, T5, W5, e5, A5, hl5⟩
        have tp5 := tpa.but hz0 b5
        refine ⟨_, rfl, .inl ⟨rfl, _, SqL.of e5⟩, _, rfl, _, rfl, _, rfl, l, tp5, fun y1 l1 H6 s6 t1 ll1 => ?_⟩
        refine ⟨_, rfl, t, a, ns, 7, rfl, T5.same s6, by decide, by decide, fun r H7 hr0' hr1' b7 T7 => ⟨_, _, rfl, rfl, sz1 _, fun z8 hz8 => ?_⟩⟩
        obtain ⟨z6, hz6⟩ := T5.same s6
        have s8 := Same.new (o := .tup [.int (r - 1)]) hz8
        refine ⟨l1, [r - 1], (t1.but hz6 b7).same s8, ⟨z8, rfl, upd_same⟩, by show _ + 1 ≤ _; omega, fun y2 l2 H9 s9 t2 ll2 => ?_⟩
        have s79 := s8.trans s9
        have b9 := ((b5.trans (But.of (t := t) s6)).trans b7).trans (But.of (t := t) s79)
        have ll2 : l2.length ≤ l1.length + 1 := ll2
        refine ⟨_, rfl, _, rfl, _, _, rfl, rfl, _, rfl, l, tpa.but hz0 b9, fun y3 l3 H10 s10 t3 ll3 => ⟨l2, l3, t2.same s10, t3, by omega, fun y4 l4 H11 s11 t4 ll4 => ?_⟩⟩
        have s911 := s10.trans s11
        have s711 := s79.trans s911
        have e11 : H11 op = some (.lst os) := s711 _ _ (b7 _ _ (Ne.symm nto) (s6 _ _ e5))
        have W11 : RowsE H11 S 20 50000 rows := ((W5.same s6).butT (T5.same s6) b7 nSt).same s711
        have A11 : AllT H11 20 os := ((A5.same s6).but hz6 b7).same s711
        have T11 := T7.same s711
        have b11 := b9.trans (But.of (t := t) s911)
        refine ⟨op, os, y4, rfl, rfl, e11, by rw [sizeLine_eq]; omega, os ++ [y4], _, rfl, ?_, T11.wr But.at nto, ⟨(upd_ne nSo).trans W11.1, fun y hy => ⟨(W11.2 y hy).1.but e11 But.at (hro y hy), (W11.2 y hy).2⟩⟩, upd_same, (A11.app (AllT.one t4 (by omega))).but e11 But.at, by rw [List.length_append, List.length_singleton]; omega⟩
        intro b' o' n' h'
        rw [upd_ne (fun z => by rw [z, nop] at h'; cases h')]
        exact b11 _ _ n' h'
      rintro σ H5 ⟨os, v9, rfl, b5, T5, W5, e5, A5, hl5⟩
      have hl5 : os.length ≤ 13 := by omega
      refine ⟨_, rfl, op, rfl, ⟨_, SqL.of e5⟩, for_list (K := K) (a := op) (xs := os) (fun j σ H6 => ∃ S rows v10, σ = [some (.ref t), some (.ref c), some (.ref bp), some (.ref S), some (.int (0 + (i : Int))), v5, some (.int (m : Int)), some (.ref pa), some (.ref op), v9, v10] ∧ But t H H6 ∧ Tape K H6 t a ns ∧ H S = none ∧ S ≠ op ∧ RowsE H6 S 20 50000 rows ∧ H6 op = some (.lst os) ∧ AllT H6 20 os ∧ rows.length ≤ 13 + 41 * i + 3 * j) ⟨S, rows, v10, rfl, b5, T5, nS, nSo, W5, e5, A5, by omega⟩ (fun j σ H6 _ h => by obtain ⟨_, _, _, _, _, _, _, _, _, e6, _⟩ := h; exact SqL.of e6) ?_ ?_⟩
      · rintro j y σ H6 hy ⟨S, rows, v10, rfl, b6, T6, nS, nSo, W6, e6, A6, hl6⟩
        have hjl : j < os.length := (List.getElem?_eq_some_iff.mp hy).1
        obtain ⟨lo, ty, hlo⟩ := A6 y (List.mem_of_getElem? hy)
        have nSt : S ≠ t := T.ne nS
        have Rb6 : RowE H6 20 21845 (.ref bp) := (Rb.but hz0 b6 (Rb.tape T)).mono (by decide) (Nat.le_refl _)
        refine ⟨_, rfl, .inl ⟨rfl, _, SqL.of W6.1⟩, _, rfl, _, rfl, _, rfl, 20, 21845, Rb6, fun p7 H7 s7 n7 R7 => ?_⟩
        refine ⟨_, rfl, sz1 _, fun p8 h8 => ?_⟩
        have s8 := Same.new (o := .lst [y]) h8
        have R8 : RowE (upd H7 p8 (.lst [y])) 20 1 (.ref p8) := ⟨p8, _, rfl, upd_same, AllT.one ((ty.same s7).same s8) hlo, Nat.le_refl _⟩
        refine ⟨20, 21845, 1, R7.same s8, R8, by decide, fun p9 H9 s9 n9 R9 => ?_⟩
        have s69 := s7.trans (s8.trans s9)
        refine ⟨_, rfl, _, rfl, _, _, rfl, rfl, _, rfl, 20, 21845, Rb6.same s69, fun p10 H10 s10 n10 R10 => ?_⟩
        refine ⟨20, 21845 + 1, 21845, R9.same s10, R10, by decide, fun p11 H11 s11 n11 R11 => ?_⟩
        have s611 := s69.trans (s10.trans s11)
        have W11 := W6.same s611
        have R11 : RowE H11 20 50000 (.ref p11) := R11.mono (Nat.le_refl _) (by decide)
        have nR : V.ref p11 ≠ .ref S := fun z => by
          have := W6.same (s69.trans s10)
          cases z
          rw [this.1] at n11; cases n11
        refine ⟨S, rows, .ref p11, rfl, rfl, W11.1, by rw [sizeLine_eq]; omega, ?_⟩
        have W12 := W11.push R11 nR
        have b12 : But t H (upd H11 S (.lst (rows ++ [.ref p11]))) := fun b' o' n' h' => by
          rw [upd_ne (fun z => by rw [z, nS] at h'; cases h')]
          exact (b6.trans (But.of (t := t) s611)) _ _ n' h'
        have T12 : Tape K (upd H11 S (.lst (rows ++ [.ref p11]))) t a ns := (T6.same s611).wr But.at (Ne.symm nSt)
        have e12 : upd H11 S (.lst (rows ++ [.ref p11])) op = some (.lst os) := (upd_ne (Ne.symm nSo)).trans (s611 _ _ e6)
        have A12 : AllT (upd H11 S (.lst (rows ++ [.ref p11]))) 20 os := (A6.same s611).but W11.1 But.at
        have ty12 : TkE (upd H11 S (.lst (rows ++ [.ref p11]))) lo y := (ty.same s611).but W11.1 But.at
        generalize upd H11 S (.lst (rows ++ [.ref p11])) = H12 at W12 b12 T12 e12 A12 ty12 ⊢
        have Rb12 : RowE H12 20 21845 (.ref bp) := (Rb.but hz0 b12 (Rb.tape T)).mono (by decide) (Nat.le_refl _)
        refine ⟨_, rfl, _, rfl, _, rfl, _, rfl, 20, 21845, Rb12, fun p13 H13 s13 n13 R13 => ?_⟩
        refine ⟨_, rfl, sz1 _, fun p14 h14 => ?_⟩
        have s14 := Same.new (o := .lst [y]) h14
        have R14 : RowE (upd H13 p14 (.lst [y])) 20 1 (.ref p14) := ⟨p14, _, rfl, upd_same, AllT.one ((ty12.same s13).same s14) hlo, Nat.le_refl _⟩
        refine ⟨20, 21845, 1, R13.same s14, R14, by decide, fun p15 H15 s15 n15 R15 => ?_⟩
        have s1215 := s13.trans (s14.trans s15)
        refine ⟨_, rfl, _, rfl, _, rfl, 20, 21845, Rb12.same s1215, fun p16 H16 s16 n16 R16 => ?_⟩
        refine ⟨20, 21845 + 1, 21845, R15.same s16, R16, by decide, fun p17 H17 s17 n17 R17 => ?_⟩
        have s1217 := s1215.trans (s16.trans s17)
        refine ⟨_, rfl, _, rfl, sz1 _, fun p18 h18 => ?_⟩
        have s18 := Same.new (o := .lst [y]) h18
        have R18 : RowE (upd H17 p18 (.lst [y])) 20 1 (.ref p18) := ⟨p18, _, rfl, upd_same, AllT.one ((ty12.same s1217).same s18) hlo, Nat.le_refl _⟩
        refine ⟨20, 21845, 1, (Rb12.same s1217).same s18, R18, by decide, fun p19 H19 s19 n19 R19 => ⟨sz2 _ _, fun lp hlp => ?_⟩⟩
        have s1719 := s18.trans s19
        have s20 := Same.new (o := .lst [.ref p17, .ref p19]) hlp
        have e20 : upd H19 lp (.lst [.ref p17, .ref p19]) lp = some (.lst [.ref p17, .ref p19]) := upd_same
        have A20 : ∀ y ∈ [V.ref p17, V.ref p19], RowE (upd H19 lp (.lst [.ref p17, .ref p19])) 20 50000 y := fun y hy => by
          simp only [List.mem_cons, List.not_mem_nil, or_false] at hy
          rcases hy with rfl | rfl
          · exact (R17.same (s1719.trans s20)).mono (Nat.le_refl _) (by decide)
          · exact (R19.same s20).mono (Nat.le_refl _) (by decide)
        have s1220 := s1217.trans (s1719.trans s20)
        generalize upd H19 lp (.lst [.ref p17, .ref p19]) = H20 at e20 A20 s1220 ⊢
        have W20 := W12.same s1220
        refine ⟨S, lp, rows ++ [.ref p11], _, rfl, rfl, W20.1, e20, by rw [sizeLine_eq, List.length_append]; show _ + 1 + 2 ≤ _; omega, fun S2 hS2 => ?_⟩
        have s21 := Same.new (o := .lst (rows ++ [.ref p11] ++ [.ref p17, .ref p19])) hS2
        have s1221 := s1220.trans s21
        have n2o : S2 ≠ op := fun z => by rw [z, s1220 _ _ e12] at hS2; cases hS2
        refine ⟨S2, _, _, rfl, b12.trans (But.of (t := t) s1221), T12.same s1221, (b12.trans (But.of (t := t) s1220)).free hS2 ((T12.same s1220).ne hS2), n2o, RowsE.fresh hS2 (fun y hy => ?_), s1221 _ _ e12, A12.same s1221, ?_⟩
        · rcases List.mem_append.mp hy with hy | hy
          · exact (W20.2 y hy).1
          · exact A20 y hy
        · rw [List.length_append, List.length_append]
          show _ + 1 + 2 ≤ _
          omega
      rintro σ H6 ⟨S, rows, v10, rfl, b6, T6, nS, nSo, W6, e6, A6, hl6⟩
      have Rb6 : RowE H6 20 21845 (.ref bp) := (Rb.but hz0 b6 (Rb.tape T)).mono (by decide) (Nat.le_refl _)
      refine ⟨_, rfl, _, rfl, _, rfl, _, rfl, 20, 21845, Rb6, fun p7 H7 s7 n7 R7 => ?_⟩
      refine ⟨_, rfl, _, rfl, _, _, rfl, rfl, _, rfl, 20, 21845, Rb6.same s7, fun p8 H8 s8 n8 R8 => ?_⟩
      refine ⟨20, 21845, 21845, R7.same s8, R8, by decide, fun p9 H9 s9 n9 R9 => ?_⟩
      have s69 := s7.trans (s8.trans s9)
      refine ⟨_, rfl, _, rfl, _, _, rfl, rfl, _, rfl, 20, 21845, Rb6.same s69, fun p10 H10 s10 n10 R10 => ?_⟩
      refine ⟨_, rfl, _, rfl, _, rfl, 20, 21845, (Rb6.same s69).same s10, fun p11 H11 s11 n11 R11 => ?_⟩
      refine ⟨20, 21845, 21845, R10.same s11, R11, by decide, fun p12 H12 s12 n12 R12 => ⟨sz2 _ _, fun lp hlp => ?_⟩⟩
      have s912 := s10.trans (s11.trans s12)
      have s13 := Same.new (o := .lst [.ref p9, .ref p12]) hlp
      have e13 : upd H12 lp (.lst [.ref p9, .ref p12]) lp = some (.lst [.ref p9, .ref p12]) := upd_same
      have A13 : ∀ y ∈ [V.ref p9, V.ref p12], RowE (upd H12 lp (.lst [.ref p9, .ref p12])) 20 50000 y := fun y hy => by
        simp only [List.mem_cons, List.not_mem_nil, or_false] at hy
        rcases hy with rfl | rfl
        · exact (R9.same (s912.trans s13)).mono (Nat.le_refl _) (by decide)
        · exact (R12.same s13).mono (Nat.le_refl _) (by decide)
      have s613 := s69.trans (s912.trans s13)
      generalize upd H12 lp (.lst [.ref p9, .ref p12]) = H13 at e13 A13 s613 ⊢
      have W13 := W6.same s613
      refine ⟨S, lp, rows, _, rfl, rfl, W13.1, e13, by rw [sizeLine_eq]; show _ + 2 ≤ _; omega, fun S2 hS2 => ?_⟩
      have s14 := Same.new (o := .lst (rows ++ [.ref p9, .ref p12])) hS2
      have s614 := s613.trans s14
      rw [hJ]
      refine ⟨S2, _, _, _, _, _, _, _, _, rfl, b6.trans (But.of (t := t) s614), T6.same s614, (b6.trans (But.of (t := t) s613)).free hS2 ((T6.same s613).ne hS2), RowsE.fresh hS2 (fun y hy => ?_), ?_⟩
      · rcases List.mem_append.mp hy with hy | hy
        · exact (W13.2 y hy).1
        · exact A13 y hy
      · rw [List.length_append]
        show _ + 2 ≤ _
        omega
    · rintro σ H3 hI
      rw [hJ] at hI
      obtain ⟨S, rows, v4, v5, v6, v7, v8, v9, v10, rfl, b3, T3, nS, W3, hl3⟩ := hI
      exact ⟨_, rfl, k S rows H3 b3 T3 nS W3 (by omega)⟩
end
end Ab
set_option Elab.async false
set_option linter.all false
set_option maxRecDepth 100000
namespace Ab
open PySem L2
theorem canLay_rows (bs : List (List Int)) : (PyData.list (bs.map dealD)).canLay0 = true := by unfold PyData.canLay0; exact canLay_map _ canLay_tints bs
theorem depth_rows (bs : List (List Int)) : (PyData.list (bs.map dealD)).depth ≤ 2 := by unfold PyData.depth; exact Nat.succ_le_succ (depth_map _ depth_tints bs)
theorem shaped_rows (bs : List (List Int)) : SeqAt.shaped (.list (bs.map dealD)) = true := shaped_of (canLay_rows bs) (Nat.le_trans (depth_rows bs) (by decide))
theorem noDict_rows (bs : List (List Int)) : noDict (.list (bs.map dealD)) = true := by
  unfold noDict
  induction bs with
  | nil => unfold List.map noDicts; rfl
  | cons b r ih => rw [List.map_cons]; unfold noDicts; rw [ih]; unfold dealD; rw [noDict_tints]; rfl
theorem eqv_rows (bs : List (List Int)) : PyData.eqv (.list (bs.map dealD)) (.list (bs.map dealD)) = true := by
  rw [PyData.eqv]
  induction bs with
  | nil => rw [List.map_nil, PyData.eqvAll]
  | cons b r ih => rw [List.map_cons, PyData.eqvAll, ih]; unfold dealD; rw [eqv_tints, decide_eq_true rfl]; rfl
theorem at5 (a b c d e : Int) (j : Nat) : ∃ v : Int, atI [V.int a, .int b, .int c, .int d, .int e] ((j : Int) % 5) = some (.int v) := by
  have : ((j : Int) % 5) = ((j % 5 : Nat) : Int) := by omega
  rw [this]
  have h : j % 5 < 5 := Nat.mod_lt _ (by decide)
  generalize j % 5 = m at h
  have : m = 0 ∨ m = 1 ∨ m = 2 ∨ m = 3 ∨ m = 4 := by omega
  rcases this with rfl | rfl | rfl | rfl | rfl
  · exact ⟨a, rfl⟩
  · exact ⟨b, rfl⟩
  · exact ⟨c, rfl⟩
  · exact ⟨d, rfl⟩
  · exact ⟨e, rfl⟩
theorem but_same {t : Addr} {H H' : Hp} {o : HO} (h : H t = none) (b : But t (upd H t o) H') : Same H H' := fun c u e => by
  have n : c ≠ t := fun z => by rw [z, h] at e; cases e
  exact b c u n (by rw [upd_ne n]; exact e)
section
variable {P : Program} {w : World} {K : PySem.W.Frag} {mg : Str → Option Value} {base : Heap}
def spLaw (K : PySem.W.Frag) : Sp := fun vs H Q _ => ∃ (a : Addr) (ns : List Int), vs = [.ref a] ∧ SqL K H a (ns.map V.int) ∧ ∀ H', Q (.bl true) H'
theorem scLaw : FnScope ["script", "start", "tape", "book", "weights", "most", "deal", "bars", "at", "one", "number", "handed", "found"] ["script"] (defScope sLaw) := ⟨rfl, rfl, rfl, by decide +kernel, rfl, by decide +kernel, by decide +kernel⟩
set_option maxHeartbeats 4000000 in
theorem ok_law {f fT fB2 fWt fL fA fS fDu : Addr} {fd dT dB2 dWt dL dA dS dDu : FuncData} (G : Fn K mg "law" sLaw ["script"] f fd) (B : Bl mg) (GTp : Fn K mg "_law_atape" sTape ["script", "k"] fT dT) (OTp : FnOk P w K mg base CX0 2 fT dT ["script", "k"] (spTape K)) (GB : Fn K mg "_law_abook" sABook ["tape", "hands", "works"] fB2 dB2) (OB : FnOk P w K mg base CX0 2 fB2 dB2 ["tape", "hands", "works"] (spABook K))
    (GWt : Fn K mg "_law_aweights" sAWt ["tape", "many"] fWt dWt) (OWt : FnOk P w K mg base CX0 2 fWt dWt ["tape", "many"] (spAWt K)) (GLm : Fn K mg "least_most" sLeastM ["book", "weights"] fL dL) (OLm : FnOk P w K mg base CX0 8 fL dL ["book", "weights"] (spLeastM K)) (GAl : Fn K mg "_law_aall" sAll ["tape", "book", "bars"] fA dA) (OAl : FnOk P w K mg base CX0 10 fA dA ["tape", "book", "bars"] (spAll K)) (GDs : Fn K mg "do_show" sDoShow ["book", "weights", "bars", "number"] fS dS) (ODs : FnOk P w K mg base CX0 8 fS dS ["book", "weights", "bars", "number"] (spDoShow K)) (GDu : Fn K mg "_law_adue" sADue ["book", "weights", "bars", "number"] fDu dDu) (ODu : FnOk P w K mg base CX0 9 fDu dDu ["book", "weights", "bars", "number"] (spDue K)) : FnOk P w K mg base CX0 11 f fd ["script"] (spLaw K) := by
  refine G.fn.ok scLaw (fun vs H Q E h => ?_) (fun cdv A outer s H vs Q E hr h => ?_)
  · obtain ⟨a, ns, rfl, _⟩ := h
    rfl
  · obtain ⟨a, ns, rfl, hns, k⟩ := h
    have r2 : Room 2 _ := hr.mono (by decide)
    have r8 : Room 8 _ := hr.mono (by decide)
    have rD : Room 9 _ := hr.mono (by decide)
    have rA : Room 10 _ := hr
    refine ⟨_, (pss_cons (ps_for PassesOwn.never rfl (pi_range2 rfl B.range (pa_cons pe_int (pa_cons (pe_callB (call_max2 rfl) rfl B.max b_max (pa_cons pe_int (pa_cons (pe_callB (call_min2 rfl) rfl B.min b_min (pa_cons pe_int (pa_cons (pe_callB call_len_seq rfl B.len b_len (pa_cons (pv 0) pa_nil)) pa_nil))) pa_nil))) pa_nil))) (pg_name (i := 1) scLaw.nd rfl (Or.inl rfl))
      (pss_cons (ps_set (i := 2) scLaw.nd rfl (Or.inl rfl) (pe_fn GTp OTp r2 rfl (pa_cons (pv 0) (pa_cons (pv 1) pa_nil))))
    (pss_cons (ps_set (i := 3) scLaw.nd rfl (Or.inl rfl) (pe_fn GB OB r2 rfl (pa_cons (pv 2) (pa_cons (pe_ix ix_list (pe_lst (pa_cons pe_int (pa_cons pe_int pa_nil))) (pv 1) (fun _ _ => rfl)) (pa_cons (pe_ix ix_list (pe_lst (pa_cons pe_int (pa_cons pe_int pa_nil))) (pv 1) (fun _ _ => rfl)) pa_nil)))))
    (pss_cons (ps_set (i := 4) scLaw.nd rfl (Or.inl rfl) (pe_fn GWt OWt r2 rfl (pa_cons (pv 2) (pa_cons (pe_callB call_len_seq rfl B.len b_len (pa_cons (pe_ix ix_tup (pv 3) pe_int (fun _ _ => rfl)) pa_nil)) pa_nil))))
    (pss_cons (ps_asg (pe_fn GLm OLm r8 rfl (pa_cons (pv 3) (pa_cons (pv 4) pa_nil))) (pg_tup rfl (pgs_cons (pg_name (i := 5) scLaw.nd rfl (Or.inl rfl)) (pgs_cons (pg_name (i := 6) scLaw.nd rfl (Or.inl rfl)) (pgs_cons (pg_name (i := 7) scLaw.nd rfl (Or.inl rfl)) pgs_nil)))))
    (pss_one (ps_for PassesOwn.never rfl (pi_enum .l rfl B.enumerate (pa_cons (pe_fn GAl OAl rA rfl (pa_cons (pv 2) (pa_cons (pv 3) (pa_cons (pv 7) pa_nil)))) pa_nil)) (pg_tup rfl (pgs_cons (pg_name (i := 8) scLaw.nd rfl (Or.inl rfl)) (pgs_cons (pg_name (i := 9) scLaw.nd rfl (Or.inl rfl)) pgs_nil)))
      (pss_one (ps_for PassesOwn.never rfl (pi_list (pe_lst (pa_cons (pv 5) (pa_cons (pe_ix ix_list (pe_lst (pa_cons (pe_op op_add (pv 5) pe_int) (pa_cons (pe_op op_sub (pv 5) pe_int) (pa_cons pe_int (pa_cons (pe_un un_neg pe_int) (pa_cons (pe_op op_pow pe_int pe_int) pa_nil)))))) (pe_op op_mod (pv 8) pe_int) (fun _ _ => rfl)) pa_nil)))) (pg_name (i := 10) scLaw.nd rfl (Or.inl rfl))
      (pss_cons (ps_set (i := 11) scLaw.nd rfl (Or.inl rfl) (pe_callTy call_list_of rfl B.list b_list (pa_cons (pv 9) pa_nil)))
    (pss_cons (ps_set (i := 12) scLaw.nd rfl (Or.inl rfl) (pe_fn GDs ODs r8 rfl (pa_cons (pv 3) (pa_cons (pv 4) (pa_cons (pv 11) (pa_cons (pv 10) pa_nil))))))
    (pss_one (ps_if (PW.pt (pw_or (pt_not (pt_val (pe_callB call_isi_bool rfl B.isinstance b_isi (pa_cons (pv 12) (pa_cons (pe_bltn (v := .ty "bool") rfl B.bool b_bool rfl) pa_nil))))) (pw_or (pt_cmpR op_ne (pv 12) (pe_fn GDu ODu rD rfl (pa_cons (pv 3) (pa_cons (pv 4) (pa_cons (pv 9) (pa_cons (pv 10) pa_nil))))) (nomark _)) (pw_or1 (pt_cmpR (op_neD hr.u64) (pv 11) (pv 9) (nomark _))))))
      (pss_one (ps_ret pe_bl))
      pss_nil)))))))))))))
    (pss_one (ps_ret pe_bl))), ?_⟩
    have hM : ∀ m : Int, 0 ≤ m → 0 ≤ (if (if m < 2 then m else 2) > 1 then (if m < 2 then m else 2) else 1) ∧ (if (if m < 2 then m else 2) > 1 then (if m < 2 then m else 2) else 1) ≤ 2 := fun m hm => by split <;> split <;> omega
    have hM' := hM ((ns.map V.int).length : Int) (by omega)
    refine ⟨_, rfl, a, _, rfl, .inl hns, _, _, rfl, _, _, rfl, 0, _, rfl, ⟨by decide, by decide, by omega, by omega⟩, for_range (lo := 0) (fun i σ H1 => (∃ v1 v2 v3 v4 v5 v6 v7 v8 v9 v10 v11 v12, σ = [some (.ref a), v1, v2, v3, v4, v5, v6, v7, v8, v9, v10, v11, v12]) ∧ SqL K H1 a (ns.map V.int)) ⟨⟨_, _, _, _, _, _, _, _, _, _, _, _, rfl⟩, hns⟩ ?_ ?_⟩
    · rintro i σ H1 hi ⟨⟨v1, v2, v3, v4, v5, v6, v7, v8, v9, v10, v11, v12, rfl⟩, hs1⟩
      have hi2 : i < 2 := by omega
      refine ⟨_, rfl, _, rfl, a, ns, i, by rw [Int.zero_add]; rfl, hs1, fun t n0 ht => ?_⟩
      have bS : ∀ {H' : Hp}, But t (upd H1 t (.lst [.int n0])) H' → Same H1 H' := fun b => but_same ht b
      have T2 : Tape K (upd H1 t (.lst [.int n0])) t a ns := ⟨_, upd_same⟩
      generalize upd H1 t (.lst [.int n0]) = H2 at T2 bS ⊢
      dsimp only [gName]
      obtain ⟨hm, hhm, hm1, hm4⟩ : ∃ hm : Int, atI [V.int 3, V.int 4] (0 + (i : Int)) = some (.int hm) ∧ 1 ≤ hm ∧ hm ≤ 4 := by
        have : i = 0 ∨ i = 1 := by omega
        rcases this with rfl | rfl
        · exact ⟨3, rfl, by decide, by decide⟩
        · exact ⟨4, rfl, by decide, by decide⟩
      obtain ⟨wm, hwm, hw0, hw3⟩ : ∃ wm : Int, atI [V.int 3, V.int 2] (0 + (i : Int)) = some (.int wm) ∧ 0 ≤ wm ∧ wm ≤ 3 := by
        have : i = 0 ∨ i = 1 := by omega
        rcases this with rfl | rfl
        · exact ⟨3, rfl, by decide, by decide⟩
        · exact ⟨2, rfl, by decide, by decide⟩
      refine ⟨_, rfl, sz2 _ _, fun l1 hl1 => ⟨_, rfl, l1, _, _, _, rfl, rfl, SqL.of upd_same, hhm, sz2 _ _, fun l2 hl2 => ⟨_, rfl, l2, _, _, _, rfl, rfl, SqL.of upd_same, hwm, ?_⟩⟩⟩
      have s3 := (Same.new (o := .lst [V.int 3, V.int 4]) hl1).trans (Same.new (o := .lst [V.int 3, V.int 2]) hl2)
      refine ⟨t, a, ns, hm, wm, rfl, T2.same s3, hm1, by omega, hw0, by omega, fun n ws bk H4 hb hn hlen b4 T4 hbk => ?_⟩
      have b4 := (But.of (t := t) s3).trans b4
      dsimp only [gName]
      obtain ⟨c, bb, ys, e, hc, hb1, hys1⟩ := den_book hbk
      cases e
      have hly := denAll_length hys1
      rw [List.length_map] at hly
      have hn4 : n ≤ 4 := by omega
      have hl7 : ws.length ≤ 7 := by omega
      refine ⟨_, rfl, _, rfl, bk, _, 1, .ref bb, rfl, rfl, hc, rfl, bb, ys, rfl, .inr hb1, t, a, ns, ws.length, by rw [hly]; rfl, T4, by omega, fun wt wp H7 hwl hwb b7 T7 hwp => ?_⟩
      dsimp only [gName]
      have hwt : WtOk ws wt := ⟨hwl, hwb⟩
      have hbk7 := T4.den b7 (noList_book _ _) hbk
      have b7 := b4.trans b7
      refine ⟨_, rfl, _, rfl, .ref bk, n, ws, wp, wt, rfl, hbk7, hb, hwp, hwt, hn4, hl7, fun p dp bp xs most deal bars H8 s8 hp nb hbp tb L td => ?_⟩
      refine ⟨p, _, rfl, SqT.of hp, rfl, _, _, rfl, _, _, rfl, _, _, rfl, rfl, ?_⟩
      have hbk8 := s8.den _ _ hbk7
      have hwp8 := s8.seqT hwp
      have T8 := T7.same s8
      have Rb : RowE H8 7 21845 (.ref bp) := ⟨bp, xs, rfl, hbp, tb.all fun b hb' => Nat.le_trans (begW_len ws b (L.bs b hb')) hl7, by rw [tb.1]; exact L.len⟩
      refine ⟨_, rfl, _, rfl, _, rfl, t, a, bp, ns, .ref bk, n, ws, rfl, T8, hbk8, hb, hn4, hl7, Rb, fun S rows H9 b9 T9 nS W9 hl9 => ?_⟩
      have hbk9 := T8.den b9 (noList_book _ _) hbk8
      have hwp9 := T8.seqT b9 hwp8
      have s19 : Same H1 H9 := bS ((b7.trans (But.of s8)).trans b9)
      refine ⟨S, rows, rfl, SqL.of W9.1, for_enum (K := K) (k := .l) (a := S) (xs := rows) (fun j σ H10 => (∃ v8 v9 v10 v11 v12, σ = [some (.ref a), some (.int (0 + (i : Int))), some (.ref t), some (.ref bk), some (.ref wp), some (.int most), some (.ref dp), some (.ref bp), v8, v9, v10, v11, v12]) ∧ Same H9 H10) ⟨⟨_, _, _, _, _, rfl⟩, Same.refl _⟩ (fun j σ H10 _ h => h.2.seqL (SqL.of W9.1)) ?_ ?_⟩
      · rintro j y q σ H10 hy ⟨⟨v8, v9, v10, v11, v12, rfl⟩, s10⟩ hq
        obtain ⟨rq, rxs, rfl, hrq, hrA, hrl⟩ := (W9.2 y (List.mem_of_getElem? hy)).1
        have s11 := Same.new (o := .tup [.int (j : Nat), .ref rq]) hq
        have t3 : upd H10 q (.tup [.int (j : Nat), .ref rq]) q = some (.tup [.int (j : Nat), .ref rq]) := upd_same
        generalize upd H10 q (.tup [.int (j : Nat), .ref rq]) = H11 at s11 t3 ⊢
        have s911 := s10.trans s11
        refine ⟨q, _, rfl, SqT.of t3, rfl, _, _, rfl, _, _, rfl, rfl, ?_⟩
        obtain ⟨v, hv⟩ := at5 (most + 1) (most - 1) 0 (-3) ((10 : Int) ^ (20 : Int).toNat) j
        refine ⟨_, rfl, _, rfl, _, _, rfl, rfl, _, rfl, _, _, rfl, rfl, _, rfl, _, _, rfl, rfl, ⟨by decide, by decide, by decide⟩, size1 (show 5 ≤ 1000 by decide), fun l3 hl3 => ⟨_, rfl, _, _, rfl, rfl, (show (0 : Int) < 5 by decide), l3, _, _, _, rfl, rfl, SqL.of upd_same, hv, sz2 _ _, fun l4 hl4 => ?_⟩⟩
        have s12 := (Same.new (o := .lst [V.int (most + 1), .int (most - 1), .int 0, .int (-3), .int ((10 : Int) ^ (20 : Int).toNat)]) hl3).trans (Same.new (o := .lst [V.int most, .int v]) hl4)
        have e12 : (upd (upd H11 l3 (.lst [V.int (most + 1), .int (most - 1), .int 0, .int (-3), .int ((10 : Int) ^ (20 : Int).toNat)])) l4 (.lst [V.int most, .int v])) l4 = some (.lst [V.int most, .int v]) := upd_same
        generalize upd (upd H11 l3 (.lst [V.int (most + 1), .int (most - 1), .int 0, .int (-3), .int ((10 : Int) ^ (20 : Int).toNat)])) l4 (.lst [V.int most, .int v]) = H12 at s12 e12 ⊢
        have s912 := s911.trans s12
        refine ⟨l4, rfl, ⟨_, SqL.of e12⟩, for_list (K := K) (a := l4) (xs := [V.int most, .int v]) (fun i' σ H13 => (∃ v10 v11 v12, σ = [some (.ref a), some (.int (0 + (i : Int))), some (.ref t), some (.ref bk), some (.ref wp), some (.int most), some (.ref dp), some (.ref bp), some (.int (j : Nat)), some (.ref rq), v10, v11, v12]) ∧ Same H12 H13) ⟨⟨_, _, _, rfl⟩, Same.refl _⟩ (fun i' σ H13 _ h => h.2.seqL (SqL.of e12)) ?_ ?_⟩
        · rintro i' u σ H13 hu ⟨⟨v10, v11, v12, rfl⟩, s13⟩
          obtain ⟨num, rfl⟩ : ∃ num : Int, u = .int num := by
            have := List.mem_of_getElem? hu
            simp only [List.mem_cons, List.not_mem_nil, or_false] at this
            rcases this with rfl | rfl
            · exact ⟨_, rfl⟩
            · exact ⟨_, rfl⟩
          have s913 := s912.trans s13
          have hr13 := s913 _ _ hrq
          obtain ⟨bs, tk⟩ := (hrA.same s913).tk
          refine ⟨_, rfl, rq, rxs, rfl, .inl (SqL.of hr13), fun hp1 hhp1 => ?_⟩
          have s14 := Same.new (o := .lst rxs) hhp1
          have e14 : upd H13 hp1 (.lst rxs) hp1 = some (.lst rxs) := upd_same
          generalize upd H13 hp1 (.lst rxs) = H14 at s14 e14 ⊢
          have s914 := s913.trans s14
          dsimp only [gName]
          refine ⟨_, rfl, _, rfl, _, rfl, _, rfl, .ref bk, n, ws, wp, wt, hp1, rxs, bs, num, rfl, s914.den _ _ hbk9, hb, s914.seqT hwp9, hwt, hn4, hl7, e14, tk.same s14, by rw [← tk.1]; omega, fun H15 s15 => ?_⟩
          have s915 := s914.trans s15
          dsimp only [gName]
          refine ⟨_, rfl, .bl _, .bl, rfl, rfl, _, rfl, iteF ?_⟩
          refine ⟨_, rfl, _, rfl, _, rfl, _, rfl, _, rfl, .ref bk, wp, rq, n, ws, wt, rxs, bs, num, rfl, s915.den _ _ hbk9, hb, s915.seqT hwp9, hwt, hl7, s915 _ _ hrq, (tk.same s14).same s15, fun H16 s16 => ?_⟩
          refine ⟨rfl, _, rfl, ?_⟩
          rw [due_is]
          refine iteFx (by simp) ?_
          have s916 := s915.trans s16
          have s1316 := s14.trans (s15.trans s16)
          have tk16 := tk.same s1316
          refine ⟨_, rfl, _, rfl, .list (bs.map dealD), .list (bs.map dealD), den_list.mpr ⟨hp1, rxs, rfl, SqL.of ((s15.trans s16) _ _ e14), tk16.den⟩, den_list.mpr ⟨rq, rxs, rfl, SqL.of (s916 _ _ hrq), tk16.den⟩, noDict_rows _, noDict_rows _, shaped_rows _, shaped_rows _, _, rfl, ?_⟩
          rw [eqv_rows]
          refine iteF ?_
          exact ⟨⟨_, _, _, rfl⟩, s13.trans s1316⟩
        · rintro σ H13 ⟨⟨v10, v11, v12, rfl⟩, s13⟩
          exact ⟨⟨_, _, _, _, _, rfl⟩, s912.trans s13⟩
      · rintro σ H10 ⟨⟨v8, v9, v10, v11, v12, rfl⟩, s10⟩
        exact ⟨⟨_, _, _, _, _, _, _, _, _, _, _, _, rfl⟩, (s19.trans s10).seqL hs1⟩
    · rintro σ H1 ⟨⟨v1, v2, v3, v4, v5, v6, v7, v8, v9, v10, v11, v12, rfl⟩, hs1⟩
      exact k _
end
end Ab
set_option Elab.async false
set_option linter.all false
set_option maxRecDepth 100000
namespace Ab
open PySem L2 PyProof.Rows
theorem fn_mk {K : PySem.W.Frag} {h : Heap} {mg : Str → Option Value} (X : K.In h) (G : h.Ns mainGlobals mg) {x : Str} {st : Stmt} {ps : List Str} {f : Addr} {oc : Value} {od an : Option Addr} {osl : Array (Option Value)} {kV doc pm cdv ct : Value}
    (hb : ∀ (kV doc pm : Value) (an : Option Addr) (cdv ct : Value) (us : List Value), us.length = ps.length → bindArgs (PySem.W.fnOf x x (defArgs st) (defBody st) (defScope st) .none kV doc pm an cdv ct) ⟨us, []⟩ = pure (ps.zip us))
    (a : PySem.W.nsIn K mainGlobals x = some (some (.ref f))) (l : K.lookup f = some ⟨oc, od, .func (PySem.W.fnOf x x (defArgs st) (defBody st) (defScope st) .none kV doc pm an cdv ct), osl⟩) (c : PySem.W.codeIn K cdv x = true) (k : PySem.W.keepIn K (.ref f) = true) :
    ∃ f fd, Fn K mg x st ps f fd := by
  have F := fun_mk (st := st) l c k
  exact ⟨f, _, F, PySem.W.mg_of X G a, k, F.binds hb⟩
theorem bl_mk {K : PySem.W.Frag} {h : Heap} {mg : Str → Option Value} (X : K.In h) (G : h.Ns mainGlobals mg) {t6 t12 t7 t8 t9 : Tok}
    (z0 : PySem.W.nsIn K mainGlobals "isinstance" = some none)
    (z1 : PySem.W.nsIn K mainGlobals "int" = some none)
    (z2 : PySem.W.nsIn K mainGlobals "bool" = some none)
    (z3 : PySem.W.nsIn K mainGlobals "tuple" = some none)
    (z4 : PySem.W.nsIn K mainGlobals "list" = some none)
    (z5 : PySem.W.nsIn K mainGlobals "len" = some none)
    (z6 : PySem.W.nsIn K mainGlobals "all" = some none)
    (z7 : PySem.W.nsIn K mainGlobals "zip" = some none)
    (z8 : PySem.W.nsIn K mainGlobals "range" = some none)
    (z9 : PySem.W.nsIn K mainGlobals "sorted" = some none)
    (z10 : PySem.W.nsIn K mainGlobals "set" = some none)
    (z11 : PySem.W.nsIn K mainGlobals "sum" = some none)
    (z12 : PySem.W.nsIn K mainGlobals "repr" = some none)
    (z13 : PySem.W.nsIn K mainGlobals "max" = some none)
    (z14 : PySem.W.nsIn K mainGlobals "min" = some none)
    (z15 : PySem.W.nsIn K mainGlobals "any" = some none)
    (z16 : PySem.W.nsIn K mainGlobals "dict" = some none)
    (z17 : PySem.W.nsIn K mainGlobals "enumerate" = some none)
    (zA : PySem.W.nsIn K mainGlobals "MOST_HANDS" = some (some (.int 6 t6))) (zB : PySem.W.nsIn K mainGlobals "MOST_WORKS" = some (some (.int 12 t12))) (zC : PySem.W.nsIn K mainGlobals "MOST_WEIGHT" = some (some (.int 99 t7))) (zD : PySem.W.nsIn K mainGlobals "FEW_HANDS" = some (some (.int 4 t8))) (zE : PySem.W.nsIn K mainGlobals "FEW_WORKS" = some (some (.int 7 t9))) : Bl mg :=
  ⟨PySem.W.mg_none_of X G z0, PySem.W.mg_none_of X G z1, PySem.W.mg_none_of X G z2, PySem.W.mg_none_of X G z3, PySem.W.mg_none_of X G z4, PySem.W.mg_none_of X G z5, PySem.W.mg_none_of X G z6, PySem.W.mg_none_of X G z7, PySem.W.mg_none_of X G z8, PySem.W.mg_none_of X G z9, PySem.W.mg_none_of X G z10, PySem.W.mg_none_of X G z11, PySem.W.mg_none_of X G z12, PySem.W.mg_none_of X G z13, PySem.W.mg_none_of X G z14, PySem.W.mg_none_of X G z15, PySem.W.mg_none_of X G z16, PySem.W.mg_none_of X G z17, ⟨_, PySem.W.mg_of X G zA⟩, ⟨_, PySem.W.mg_of X G zB⟩, ⟨_, PySem.W.mg_of X G zC⟩, ⟨_, PySem.W.mg_of X G zD⟩, ⟨_, PySem.W.mg_of X G zE⟩⟩
theorem law_all {l : PySem.W.OpenLaw} {w : World} {K : PySem.W.Frag} {mg : Str → Option Value} {fa : Addr} (hfa : mg "law" = some (.ref fa)) (B : Bl mg)
    (hW : ∃ f fd, Fn K mg "is_whole" sWhole ["thing"] f fd)
    (hH : ∃ f fd, Fn K mg "are_hands" sHands ["thing"] f fd)
    (hKw : ∃ f fd, Fn K mg "is_work" sWorkP ["hands", "thing"] f fd)
    (hBP : ∃ f fd, Fn K mg "is_book" sBookP ["thing"] f fd)
    (hNB : ∃ f fd, Fn K mg "need_book" sNeedB ["book"] f fd)
    (hAW : ∃ f fd, Fn K mg "are_weights" sAreWt ["book", "thing"] f fd)
    (hNW : ∃ f fd, Fn K mg "need_weights" sNeedWt ["book", "weights"] f fd)
    (hWI : ∃ f fd, Fn K mg "is_within" sWithin ["able", "some"] f fd)
    (hST : ∃ f fd, Fn K mg "sets_of" sSets ["hands"] f fd)
    (hWD : ∃ f fd, Fn K mg "weights_dealt" sWDealt ["hands", "weights", "some"] f fd)
    (hNF : ∃ f fd, Fn K mg "need_few" sNeedF ["book", "weights"] f fd)
    (hWB : ∃ f fd, Fn K mg "weights_behind" sBehind ["book", "weights"] f fd)
    (hSH : ∃ f fd, Fn K mg "shows" sShows ["behind", "dealt", "number"] f fd)
    (hGT : ∃ f fd, Fn K mg "gone_through" sGThru ["book", "weights", "number"] f fd)
    (hLM : ∃ f fd, Fn K mg "least_most" sLeastM ["book", "weights"] f fd)
    (hBG : ∃ f fd, Fn K mg "begins_deal" sBegins ["book", "thing"] f fd)
    (hBE : ∃ f fd, Fn K mg "begin_each_deal" sBegEach ["book", "bars"] f fd)
    (hDS : ∃ f fd, Fn K mg "do_show" sDoShow ["book", "weights", "bars", "number"] f fd)
    (hCE : ∃ f fd, Fn K mg "_law_acell" sCell ["script", "k"] f fd)
    (hTA : ∃ f fd, Fn K mg "_law_atape" sTape ["script", "k"] f fd)
    (hDG : ∃ f fd, Fn K mg "_law_adigit" sADigit ["tape", "many"] f fd)
    (hAB : ∃ f fd, Fn K mg "_law_abook" sABook ["tape", "hands", "works"] f fd)
    (hWT : ∃ f fd, Fn K mg "_law_aweights" sAWt ["tape", "many"] f fd)
    (hAS : ∃ f fd, Fn K mg "_law_asets" sASets ["n"] f fd)
    (hHP : ∃ f fd, Fn K mg "_law_aheaps" sAHeaps ["book", "weights", "deal"] f fd)
    (hBA : ∃ f fd, Fn K mg "_law_abarred" sABar ["book", "weights", "begun", "most"] f fd)
    (hUN : ∃ f fd, Fn K mg "_law_aunder" sAUnder ["book", "begun", "bars"] f fd)
    (hDU : ∃ f fd, Fn K mg "_law_adue" sADue ["book", "weights", "bars", "number"] f fd)
    (hAD : ∃ f fd, Fn K mg "_law_aall_deals" sAllD ["book"] f fd)
    (hGR : ∃ f fd, Fn K mg "_law_agrown" sGrown ["tape", "book", "begun"] f fd)
    (hAL : ∃ f fd, Fn K mg "_law_aall" sAll ["tape", "book", "bars"] f fd)
    (hLW : ∃ f fd, Fn K mg "law" sLaw ["script"] f fd)
    : ∃ fd : FuncData, (∀ (s : Shared) (v : Value), BindsTo s fd ⟨[v], []⟩ [("script", v)]) ∧ ∀ base : Heap, K.In base → base.Ns mainGlobals mg → FnOk l.prog w K mg base CX0 11 fa fd ["script"] (spLaw K) := by
  obtain ⟨fW, dW, W⟩ := hW
  obtain ⟨fH, dH, H⟩ := hH
  obtain ⟨fKw, dKw, Kw⟩ := hKw
  obtain ⟨fBP, dBP, BP⟩ := hBP
  obtain ⟨fNB, dNB, NB⟩ := hNB
  obtain ⟨fAW, dAW, AW⟩ := hAW
  obtain ⟨fNW, dNW, NW⟩ := hNW
  obtain ⟨fWI, dWI, WI⟩ := hWI
  obtain ⟨fST, dST, ST⟩ := hST
  obtain ⟨fWD, dWD, WD⟩ := hWD
  obtain ⟨fNF, dNF, NF⟩ := hNF
  obtain ⟨fWB, dWB, WB⟩ := hWB
  obtain ⟨fSH, dSH, SH⟩ := hSH
  obtain ⟨fGT, dGT, GT⟩ := hGT
  obtain ⟨fLM, dLM, LM⟩ := hLM
  obtain ⟨fBG, dBG, BG⟩ := hBG
  obtain ⟨fBE, dBE, BE⟩ := hBE
  obtain ⟨fDS, dDS, DS⟩ := hDS
  obtain ⟨fCE, dCE, CE⟩ := hCE
  obtain ⟨fTA, dTA, TA⟩ := hTA
  obtain ⟨fDG, dDG, DG⟩ := hDG
  obtain ⟨fAB, dAB, AB⟩ := hAB
  obtain ⟨fWT, dWT, WT⟩ := hWT
  obtain ⟨fAS, dAS, AS⟩ := hAS
  obtain ⟨fHP, dHP, HP⟩ := hHP
  obtain ⟨fBA, dBA, BA⟩ := hBA
  obtain ⟨fUN, dUN, UN⟩ := hUN
  obtain ⟨fDU, dDU, DU⟩ := hDU
  obtain ⟨fAD, dAD, AD⟩ := hAD
  obtain ⟨fGR, dGR, GR⟩ := hGR
  obtain ⟨fAL, dAL, AL⟩ := hAL
  obtain ⟨fLW, dLW, LW⟩ := hLW
  have e := hfa.symm.trans LW.mgx
  cases e
  have R : Pr K mg fW fH fKw fBP fNB dW dH dKw dBP dNB := ⟨W, H, Kw, BP, NB⟩
  refine ⟨dLW, fun s v => ?_, fun base _ _ => ?_⟩
  · obtain ⟨oc, od, kV, doc, pm, an, cdv, ct, osl, rfl, lk, hcd⟩ := LW.fn.ex
    exact .of_eq rfl
  · have ODG : FnOk l.prog w K mg base CX0 1 fDG dDG ["tape", "many"] (spDigit K) := ok_digit DG B
    have OAW : FnOk l.prog w K mg base CX0 5 fAW dAW ["book", "thing"] (spAreWt K) := ok_areWt AW B R
    have ONW : FnOk l.prog w K mg base CX0 6 fNW dNW ["book", "weights"] (spNeedWt K) := ok_needWt NW AW OAW
    have OWD : FnOk l.prog w K mg base CX0 1 fWD dWD ["hands", "weights", "some"] (spWDealt K) := ok_wdealt WD B
    have OST : FnOk l.prog w K mg base CX0 1 fST dST ["hands"] (spSets K) := ok_sets ST B
    have OWI : FnOk l.prog w K mg base CX0 1 fWI dWI ["able", "some"] (spWithin K) := ok_within WI B
    have OWB : FnOk l.prog w K mg base CX0 2 fWB dWB ["book", "weights"] (spBehind K) := ok_behind WB B ST OST WI OWI
    have OSH : FnOk l.prog w K mg base CX0 1 fSH dSH ["behind", "dealt", "number"] (spShows K) := ok_shows SH B
    have ONF : FnOk l.prog w K mg base CX0 7 fNF dNF ["book", "weights"] (spNeedF K) := ok_needF NF B NW ONW
    have OGT : FnOk l.prog w K mg base CX0 3 fGT dGT ["book", "weights", "number"] (spGThru K) := ok_gthru GT B WB OWB WD OWD SH OSH
    have OLM : FnOk l.prog w K mg base CX0 8 fLM dLM ["book", "weights"] (spLeastM K) := ok_leastM LM B NF ONF GT OGT
    have OBG : FnOk l.prog w K mg base CX0 2 fBG dBG ["book", "thing"] (spBegins K) := ok_begins BG B R
    have OBE : FnOk l.prog w K mg base CX0 1 fBE dBE ["book", "bars"] (spBegEach K) := ok_begEach BE B
    have ODS : FnOk l.prog w K mg base CX0 8 fDS dDS ["book", "weights", "bars", "number"] (spDoShow K) := ok_doShow DS B R NF ONF BG OBG BE OBE WB OWB WD OWD SH OSH
    have OHP : FnOk l.prog w K mg base CX0 1 fHP dHP ["book", "weights", "deal"] (spAHeaps K) := ok_aheaps HP B
    have OAS : FnOk l.prog w K mg base CX0 1 fAS dAS ["n"] (spASets K) := ok_asets AS B
    have OBA : FnOk l.prog w K mg base CX0 2 fBA dBA ["book", "weights", "begun", "most"] (spABar K) := ok_abar BA B HP OHP AS OAS
    have ODU : FnOk l.prog w K mg base CX0 9 fDU dDU ["book", "weights", "bars", "number"] (spDue K) := ok_due DU B BA OBA UN
    have OAD : FnOk l.prog w K mg base CX0 1 fAD dAD ["book"] (spAllD K) := ok_allD AD B
    have OAL : FnOk l.prog w K mg base CX0 10 fAL dAL ["tape", "book", "bars"] (spAll K) := ok_all AL B DG ODG GR AD OAD
    exact ok_law LW B TA (ok_tape TA B CE) AB (ok_abook AB B DG ODG) WT (ok_awt WT B DG ODG) LM OLM AL OAL DS ODS DU ODU
theorem walk {l : PySem.W.OpenLaw} {q : Program} {loose : List Str} {XP : (Str → Option Value) → Heap → Prop} {YP : World → Heap → Prop} {d : DefRec} {K : Params → PySem.W.Frag} (hn : l.most = some 63) (hdf : d.params.defaults = []) (hq : importsNone q = true)
    (hY : ∀ (w : World) (h : Heap), YP w h → (K w.params).In h)
    (F : ∀ (w : World) (mg : Str → Option Value) (fa : Addr) (h : Heap), (K w.params).In h → h.Ns mainGlobals mg → mg d.name = some (.ref fa) →
      ∃ fd : FuncData, (∀ (s : Shared) (u : Value), BindsTo s fd ⟨[u], []⟩ [("script", u)]) ∧ ∀ base : Heap, (K w.params).In base → base.Ns mainGlobals mg → FnOk l.prog w (K w.params) mg base CX0 11 fa fd ["script"] (spLaw (K w.params))) :
    PySem.W.WalkO q loose XP YP l.row.toRowW d [] (fun f vs => PySem.call f vs) :=
  L2.walk_of (n := 63) (k := 11) (x := "script") (CX := fun _ => CX0) (sp := fun w => spLaw (K w.params)) hn (by decide) hdf ⟨rfl, by decide, by decide, rfl⟩ hq hY F (fun _ _ a ns _ _ hS => ⟨a, ns, rfl, hS, fun _ => rfl⟩) fun _ _ _ _ _ z => z
end Ab
open PySem PySem.W PyProof.Rows
set_option maxRecDepth 100000 in
set_option maxHeartbeats 0 in
theorem PySem.Challenge.cw_ablehands_k27_bars_looked_at_holds : PySem.Challenge.rw_ablehands_k27_bars_looked_at.Holds := by
  w_on; o_law; k_head; (case hw => w_witness2)
  k_fill
  refine Ab.walk (l := PySem.Challenge.rw_ablehands_k27_bars_looked_at) rfl rfl (by decide +kernel) (fun w h Y => PySem.W.kIn_of Y) ?F
  case F =>
    intro w mg fa h KX G hmg
    refine' Ab.law_all hmg ?B ?hW ?hH ?hKw ?hBP ?hNB ?hAW ?hNW ?hWI ?hST ?hWD ?hNF ?hWB ?hSH ?hGT ?hLM ?hBG ?hBE ?hDS ?hCE ?hTA ?hDG ?hAB ?hWT ?hAS ?hHP ?hBA ?hUN ?hDU ?hAD ?hGR ?hAL ?hLW
    case B =>
      refine' Ab.bl_mk KX G ?z0 ?z1 ?z2 ?z3 ?z4 ?z5 ?z6 ?z7 ?z8 ?z9 ?z10 ?z11 ?z12 ?z13 ?z14 ?z15 ?z16 ?z17 ?zA ?zB ?zC ?zD ?zE
      (case z0 => k_is)
      (case z1 => k_is)
      (case z2 => k_is)
      (case z3 => k_is)
      (case z4 => k_is)
      (case z5 => k_is)
      (case z6 => k_is)
      (case z7 => k_is)
      (case z8 => k_is)
      (case z9 => k_is)
      (case z10 => k_is)
      (case z11 => k_is)
      (case z12 => k_is)
      (case z13 => k_is)
      (case z14 => k_is)
      (case z15 => k_is)
      (case z16 => k_is)
      (case z17 => k_is)
      (case zA => k_is)
      (case zB => k_is)
      (case zC => k_is)
      (case zD => k_is)
      (case zE => k_is)
    case hW =>
      refine' Ab.fn_mk KX G (fun _ _ _ _ _ _ us hl => match us, hl with | [_], _ => rfl) ?a ?l ?c ?k
      (case a => k_is); (case l => k_is); (case c => k_is); (case k => k_is)
    case hH =>
      refine' Ab.fn_mk KX G (fun _ _ _ _ _ _ us hl => match us, hl with | [_], _ => rfl) ?a ?l ?c ?k
      (case a => k_is); (case l => k_is); (case c => k_is); (case k => k_is)
    case hKw =>
      refine' Ab.fn_mk KX G (fun _ _ _ _ _ _ us hl => match us, hl with | [_, _], _ => rfl) ?a ?l ?c ?k
      (case a => k_is); (case l => k_is); (case c => k_is); (case k => k_is)
    case hBP =>
      refine' Ab.fn_mk KX G (fun _ _ _ _ _ _ us hl => match us, hl with | [_], _ => rfl) ?a ?l ?c ?k
      (case a => k_is); (case l => k_is); (case c => k_is); (case k => k_is)
    case hNB =>
      refine' Ab.fn_mk KX G (fun _ _ _ _ _ _ us hl => match us, hl with | [_], _ => rfl) ?a ?l ?c ?k
      (case a => k_is); (case l => k_is); (case c => k_is); (case k => k_is)
    case hAW =>
      refine' Ab.fn_mk KX G (fun _ _ _ _ _ _ us hl => match us, hl with | [_, _], _ => rfl) ?a ?l ?c ?k
      (case a => k_is); (case l => k_is); (case c => k_is); (case k => k_is)
    case hNW =>
      refine' Ab.fn_mk KX G (fun _ _ _ _ _ _ us hl => match us, hl with | [_, _], _ => rfl) ?a ?l ?c ?k
      (case a => k_is); (case l => k_is); (case c => k_is); (case k => k_is)
    case hWI =>
      refine' Ab.fn_mk KX G (fun _ _ _ _ _ _ us hl => match us, hl with | [_, _], _ => rfl) ?a ?l ?c ?k
      (case a => k_is); (case l => k_is); (case c => k_is); (case k => k_is)
    case hST =>
      refine' Ab.fn_mk KX G (fun _ _ _ _ _ _ us hl => match us, hl with | [_], _ => rfl) ?a ?l ?c ?k
      (case a => k_is); (case l => k_is); (case c => k_is); (case k => k_is)
    case hWD =>
      refine' Ab.fn_mk KX G (fun _ _ _ _ _ _ us hl => match us, hl with | [_, _, _], _ => rfl) ?a ?l ?c ?k
      (case a => k_is); (case l => k_is); (case c => k_is); (case k => k_is)
    case hNF =>
      refine' Ab.fn_mk KX G (fun _ _ _ _ _ _ us hl => match us, hl with | [_, _], _ => rfl) ?a ?l ?c ?k
      (case a => k_is); (case l => k_is); (case c => k_is); (case k => k_is)
    case hWB =>
      refine' Ab.fn_mk KX G (fun _ _ _ _ _ _ us hl => match us, hl with | [_, _], _ => rfl) ?a ?l ?c ?k
      (case a => k_is); (case l => k_is); (case c => k_is); (case k => k_is)
    case hSH =>
      refine' Ab.fn_mk KX G (fun _ _ _ _ _ _ us hl => match us, hl with | [_, _, _], _ => rfl) ?a ?l ?c ?k
      (case a => k_is); (case l => k_is); (case c => k_is); (case k => k_is)
    case hGT =>
      refine' Ab.fn_mk KX G (fun _ _ _ _ _ _ us hl => match us, hl with | [_, _, _], _ => rfl) ?a ?l ?c ?k
      (case a => k_is); (case l => k_is); (case c => k_is); (case k => k_is)
    case hLM =>
      refine' Ab.fn_mk KX G (fun _ _ _ _ _ _ us hl => match us, hl with | [_, _], _ => rfl) ?a ?l ?c ?k
      (case a => k_is); (case l => k_is); (case c => k_is); (case k => k_is)
    case hBG =>
      refine' Ab.fn_mk KX G (fun _ _ _ _ _ _ us hl => match us, hl with | [_, _], _ => rfl) ?a ?l ?c ?k
      (case a => k_is); (case l => k_is); (case c => k_is); (case k => k_is)
    case hBE =>
      refine' Ab.fn_mk KX G (fun _ _ _ _ _ _ us hl => match us, hl with | [_, _], _ => rfl) ?a ?l ?c ?k
      (case a => k_is); (case l => k_is); (case c => k_is); (case k => k_is)
    case hDS =>
      refine' Ab.fn_mk KX G (fun _ _ _ _ _ _ us hl => match us, hl with | [_, _, _, _], _ => rfl) ?a ?l ?c ?k
      (case a => k_is); (case l => k_is); (case c => k_is); (case k => k_is)
    case hCE =>
      refine' Ab.fn_mk KX G (fun _ _ _ _ _ _ us hl => match us, hl with | [_, _], _ => rfl) ?a ?l ?c ?k
      (case a => k_is); (case l => k_is); (case c => k_is); (case k => k_is)
    case hTA =>
      refine' Ab.fn_mk KX G (fun _ _ _ _ _ _ us hl => match us, hl with | [_, _], _ => rfl) ?a ?l ?c ?k
      (case a => k_is); (case l => k_is); (case c => k_is); (case k => k_is)
    case hDG =>
      refine' Ab.fn_mk KX G (fun _ _ _ _ _ _ us hl => match us, hl with | [_, _], _ => rfl) ?a ?l ?c ?k
      (case a => k_is); (case l => k_is); (case c => k_is); (case k => k_is)
    case hAB =>
      refine' Ab.fn_mk KX G (fun _ _ _ _ _ _ us hl => match us, hl with | [_, _, _], _ => rfl) ?a ?l ?c ?k
      (case a => k_is); (case l => k_is); (case c => k_is); (case k => k_is)
    case hWT =>
      refine' Ab.fn_mk KX G (fun _ _ _ _ _ _ us hl => match us, hl with | [_, _], _ => rfl) ?a ?l ?c ?k
      (case a => k_is); (case l => k_is); (case c => k_is); (case k => k_is)
    case hAS =>
      refine' Ab.fn_mk KX G (fun _ _ _ _ _ _ us hl => match us, hl with | [_], _ => rfl) ?a ?l ?c ?k
      (case a => k_is); (case l => k_is); (case c => k_is); (case k => k_is)
    case hHP =>
      refine' Ab.fn_mk KX G (fun _ _ _ _ _ _ us hl => match us, hl with | [_, _, _], _ => rfl) ?a ?l ?c ?k
      (case a => k_is); (case l => k_is); (case c => k_is); (case k => k_is)
    case hBA =>
      refine' Ab.fn_mk KX G (fun _ _ _ _ _ _ us hl => match us, hl with | [_, _, _, _], _ => rfl) ?a ?l ?c ?k
      (case a => k_is); (case l => k_is); (case c => k_is); (case k => k_is)
    case hUN =>
      refine' Ab.fn_mk KX G (fun _ _ _ _ _ _ us hl => match us, hl with | [_, _, _], _ => rfl) ?a ?l ?c ?k
      (case a => k_is); (case l => k_is); (case c => k_is); (case k => k_is)
    case hDU =>
      refine' Ab.fn_mk KX G (fun _ _ _ _ _ _ us hl => match us, hl with | [_, _, _, _], _ => rfl) ?a ?l ?c ?k
      (case a => k_is); (case l => k_is); (case c => k_is); (case k => k_is)
    case hAD =>
      refine' Ab.fn_mk KX G (fun _ _ _ _ _ _ us hl => match us, hl with | [_], _ => rfl) ?a ?l ?c ?k
      (case a => k_is); (case l => k_is); (case c => k_is); (case k => k_is)
    case hGR =>
      refine' Ab.fn_mk KX G (fun _ _ _ _ _ _ us hl => match us, hl with | [_, _, _], _ => rfl) ?a ?l ?c ?k
      (case a => k_is); (case l => k_is); (case c => k_is); (case k => k_is)
    case hAL =>
      refine' Ab.fn_mk KX G (fun _ _ _ _ _ _ us hl => match us, hl with | [_, _, _], _ => rfl) ?a ?l ?c ?k
      (case a => k_is); (case l => k_is); (case c => k_is); (case k => k_is)
    case hLW =>
      refine' Ab.fn_mk KX G (fun _ _ _ _ _ _ us hl => match us, hl with | [_], _ => rfl) ?a ?l ?c ?k
      (case a => k_is); (case l => k_is); (case c => k_is); (case k => k_is)

