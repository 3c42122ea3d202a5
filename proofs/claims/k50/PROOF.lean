import PyProof.Rows.All
import Wide.All
import OpenK.AllK
import Wide.FinOn
import PyProof.EqAt
import PyProof.EqKinds
import PyProof.TupleCall
import PyProof.Rows.TupDisplay
import PyProof.DictCompW
import PyProof.WalksMore
import PyProof.MinMaxWalk
import PyProof.DictDisplay
import PyProof.DictWalks
import Lean
import PySem.Challenge.RW_ablehands_k50_books_and_fractions_writte
set_option Elab.async false
set_option linter.all false
set_option maxRecDepth 100000
namespace L2
open PySem PySem.Spec PyProof.Rows

abbrev Key := Sum Int Str
def keyIs : Key → Value → Bool
  | .inl k, v => Value.isInt k v
  | .inr x, v => Value.isStrOf x v
def keyH (w : World) : Key → Int
  | .inl k => hashInt k
  | .inr x => hashStr w x
theorem keyIs_shape : ∀ {k : Key} {v : Value}, keyIs k v = true → (∃ i t, k = Sum.inl i ∧ v = Value.int i t) ∨ (∃ x t, k = Sum.inr x ∧ v = Value.str x t)
  | .inl i, v, h => by
    obtain ⟨t, e⟩ := Value.isInt_shape (k := i) (v := v) h
    exact .inl ⟨i, t, rfl, e⟩
  | .inr x, v, h => by
    obtain ⟨t, e⟩ := Value.isStrOf_shape (x := x) (v := v) h
    exact .inr ⟨x, t, rfl, e⟩
theorem key_ll (a b : Int) : decide ((Sum.inl a : Key) = Sum.inl b) = (a == b) := by
  by_cases e : a = b
  · subst e; simp
  · have h : ¬ (Sum.inl a : Key) = Sum.inl b := fun q => e (Sum.inl.inj q)
    rw [decide_eq_false h]
    exact (beq_eq_false_iff_ne.mpr e).symm
theorem key_rr (a b : Str) : decide ((Sum.inr a : Key) = Sum.inr b) = decide (a = b) := by
  by_cases e : a = b
  · subst e; simp
  · have h : ¬ (Sum.inr a : Key) = Sum.inr b := fun q => e (Sum.inr.inj q)
    rw [decide_eq_false h, decide_eq_false e]
theorem key_lr (a : Int) (b : Str) : decide ((Sum.inl a : Key) = Sum.inr b) = false := decide_eq_false (fun q => nomatch q)
theorem key_rl (a : Str) (b : Int) : decide ((Sum.inr a : Key) = Sum.inl b) = false := decide_eq_false (fun q => nomatch q)

def mixKind (prog : Program) (w : World) : PySem.KeyKind prog w Key where
  is := keyIs
  hash := keyH w
  inj := fun v a b ha hb => by
    rcases keyIs_shape ha with ⟨i, t, rfl, rfl⟩ | ⟨x, t, rfl, rfl⟩
    · rcases keyIs_shape hb with ⟨j, u, rfl, e⟩ | ⟨y, u, rfl, e⟩
      · injection e with e1 _; rw [e1]
      · exact nomatch e
    · rcases keyIs_shape hb with ⟨j, u, rfl, e⟩ | ⟨y, u, rfl, e⟩
      · exact nomatch e
      · injection e with e1 _; rw [e1]
  byValue := fun k v h => by
    rcases keyIs_shape h with ⟨i, t, rfl, rfl⟩ | ⟨x, t, rfl, rfl⟩ <;> rfl
  pyHash := fun hv h => by
    rcases keyIs_shape hv with ⟨i, t, rfl, rfl⟩ | ⟨x, t, rfl, rfl⟩
    · exact wpAny_pyHash_int h
    · exact wpAny_pyHash_str h
  eqBool := fun hu hv h => by
    rcases keyIs_shape hu with ⟨i, t, rfl, rfl⟩ | ⟨x, t, rfl, rfl⟩
    · rcases keyIs_shape hv with ⟨j, u, rfl, rfl⟩ | ⟨y, u, rfl, rfl⟩
      · rw [key_ll] at h; exact wpAny_eqBool_int h
      · rw [key_lr] at h; exact SeqAt.EqAt.int_str i t y u _ _ _ _ h
    · rcases keyIs_shape hv with ⟨j, u, rfl, rfl⟩ | ⟨y, u, rfl, rfl⟩
      · rw [key_rl] at h; exact SeqAt.EqAt.str_int x t j u _ _ _ _ h
      · rw [key_rr] at h; exact wpAny_eqBool_str h
  «strs» := fun k x t v h => by
    rcases keyIs_shape h with ⟨i, u, rfl, e⟩ | ⟨y, u, rfl, e⟩
    · exact nomatch e
    · injection e with e1 _
      subst e1
      cases v <;> rfl

end L2

namespace L2
open PySem PySem.Spec PyProof.Rows

inductive V where
  | non | bl (b : Bool) | int (i : Int) | str (x : Str) | byt (b : Array UInt8) | flt (b : UInt64) | ref (a : Addr) | ty (n : String)
  deriving DecidableEq

def RelV : V → Value → Prop
  | .non, u => u = Value.none
  | .bl b, u => u = Value.bool b
  | .int i, u => ∃ t, u = Value.int i t
  | .str x, u => ∃ t, u = Value.str x t
  | .byt b, u => ∃ t, u = Value.bytes b t
  | .flt b, u => ∃ t, u = Value.float b t
  | .ref a, u => u = Value.ref a
  | .ty n, u => u = Value.type n

abbrev Vals : List V → List Value → Prop := Paired RelV
theorem Vals.length {xs : List V} {us : List Value} (r : Vals xs us) : xs.length = us.length := Paired.length r
theorem Vals.get : ∀ {xs : List V} {us : List Value} {i : Nat} {x : V}, Vals xs us → xs[i]? = some x → ∃ u, us[i]? = some u ∧ RelV x u
  | _, _, _, _, .nil, e => by simp at e
  | _, _, 0, _, .cons r _, e => by simp at e; subst e; exact ⟨_, rfl, r⟩
  | _, _, i + 1, x, .cons _ t, e => by
    obtain ⟨u, h1, h2⟩ := Vals.get (i := i) (x := x) t (by simpa using e)
    exact ⟨u, by simpa using h1, h2⟩
theorem Vals.set {x : V} {u : Value} (r : RelV x u) : ∀ {xs : List V} {us : List Value} (i : Nat), Vals xs us → Vals (xs.set i x) (us.set i u)
  | _, _, _, .nil => .nil
  | _, _, 0, .cons _ t => .cons r t
  | _, _, i + 1, .cons q t => .cons q (Vals.set r i t)
theorem Vals.append : ∀ {xs ys : List V} {us ws : List Value}, Vals xs us → Vals ys ws → Vals (xs ++ ys) (us ++ ws)
  := by
  intro xs ys us ws h s
  induction h with
  | nil => exact s
  | cons r t ih => exact .cons r ih
theorem Vals.take : ∀ {xs : List V} {us : List Value} (n : Nat), Vals xs us → Vals (xs.take n) (us.take n)
  | _, _, 0, _ => .nil
  | _, _, _ + 1, .nil => .nil
  | _, _, n + 1, .cons r t => .cons r (Vals.take n t)
theorem Vals.drop : ∀ {xs : List V} {us : List Value} (n : Nat), Vals xs us → Vals (xs.drop n) (us.drop n)
  | _, _, 0, r => r
  | _, _, _ + 1, .nil => .nil
  | _, _, n + 1, .cons _ t => Vals.drop n t
def RelO : Option V → Option Value → Prop
  | some v, some u => RelV v u
  | none, none => True
  | _, _ => False
def KV {κ : Type} : List (κ × V) → List (κ × Value) → Prop := Paired fun (p : κ × V) (q : κ × Value) => p.1 = q.1 ∧ RelV p.2 q.2

def kV : Key → V
  | .inl i => .int i
  | .inr x => .str x

inductive HO where
  /-- a list -/
  | lst (xs : List V)
  /-- a tuple (never changes) -/
  | tup (xs : List V)
  /-- a dict whose keys are ints and texts; one whose keys are tuples of ints and texts (the empty one is both) -/
  | dK (kvs : List (Key × V)) | dT (kvs : List (List Key × V))
  /-- a set of ints: its members, its size -/
  | set (S : Int → Bool) (n : Nat)
  /-- an instance of the class at C, its dict at dx, its attributes -/
  | ins (C dx : Addr) (fs : List (Str × V))
  /-- the dict of the instance at x -/
  | own (x : Addr)
  /-- the dict of an exception -/
  | xd (fs : List (Str × V))
  /-- a bound method, f of x -/
  | met (f x : Addr)
  /-- a range object lo, lo + 1, .. below hi -/
  | rng (lo hi : Int)
  /-- a thing that is known to the object (the script; a dict while a loop walks it): read, never written while it is so -/
  | frz (o : Obj) (u : HO)
  /-- a code object's table -/
  | tbl (ps : Array Value)
  /-- a code object's table, all of whose codes have the name q; they are tracked as its own -/
  | tab (q : Str)
  /-- any other thing, by what is true of its one object (a def of one's own: SetO a S n := HO.ext fun h => ..) -/
  | ext (φ : Heap → Prop)

abbrev Hp := Addr → Option HO
def upd (H : Hp) (a : Addr) (o : HO) : Hp := fun b => if b = a then some o else H b
theorem upd_same {H : Hp} {a : Addr} {o : HO} : upd H a o a = some o := by unfold upd; rw [if_pos rfl]
theorem upd_ne {H : Hp} {a b : Addr} {o : HO} (h : b ≠ a) : upd H a o b = H b := by unfold upd; rw [if_neg h]
theorem ne_of_none {H : Hp} {a b : Addr} {o : HO} (h : H a = some o) (h' : H b = none) : a ≠ b := by
  intro e; subst e; rw [h] at h'; cases h'

section
variable (P : Program) (w : World)
def ObjOk (H : Hp) (h : Heap) (a : Addr) : HO → Prop
  | .lst xs => xs.length ≤ sizeLine ∧ ∃ (its : List Value) (n : Nat), Vals xs its ∧ h.get? a = some { cls := .type "list", data := .seq its.toArray n }
  | .tup xs => xs.length ≤ sizeLine ∧ ∃ (its : List Value) (n : Nat), Vals xs its ∧ h.get? a = some { cls := .type "tuple", data := .seq its.toArray n }
  | .dK kvs => kvs.length ≤ sizeLine ∧ (a == sysModules) = false ∧ ∃ vs, KV kvs vs ∧ h.DictOf (mixKind P w) a vs
  | .dT kvs => kvs.length ≤ sizeLine ∧ (a == sysModules) = false ∧ ∃ xs : List (List Key × Addr × Value),
      Paired (fun (p : List Key × V) (q : List Key × Addr × Value) => p.1 = q.1 ∧ H q.2.1 = some (.tup (p.1.map kV)) ∧ RelV p.2 q.2.2) kvs xs ∧
      ∃ o es ep, h.get? a = some o ∧ o.ExactDict ∧ o.data = .dict es ep ∧ es.toList = xs.map (entryOfKey (tupleKind (mixKind P w))) ∧ (xs.map (·.1)).Nodup
  | .set S n => h.SetOf (intKind P w) a S n
  | .ins C dx fs => H dx = some (.own a) ∧ fs.length ≤ 1000 ∧ dx ≠ a ∧ h.get? a = some (PySem.W.instObj C dx) ∧
      ∃ mA, h.Ns1 dx mA ∧ (∀ f, RelO (fs.lookup f) (mA f)) ∧ PySem.Within mA (fs.map (·.1))
  | .own _ => ∃ o, h.get? a = some o
  | .xd fs => ∃ mA, h.Ns1 a mA ∧ ∀ f, RelO (fs.lookup f) (mA f)
  | .rng lo hi => ∃ t u v, h.get? a = some { cls := .type "range", data := .fields #[.int lo t, .int hi u, .int 1 v] }
  | .frz o u => h.get? a = some o ∧ ObjOk H h a u
  | .tbl ps => h.get? a = some { cls := .none, data := .fields ps }
  | .tab q => ∃ ps : Array Value, h.get? a = some { cls := .none, data := .fields ps } ∧ TriplesOk ps.toList ∧ ∀ (pos : Pos) (cv : Value), codeAmong pos ps.toList = some cv → ∃ (c : Addr) (o : Obj) (vs : Array Value) (t : Tok), cv = .ref c ∧ H c = some (.own a) ∧ h.get? c = some o ∧ o.data = .fields vs ∧ vs[1]? = some (.str q t)
  | .met f x => h.get? a = some (PySem.W.methodObj (.ref f) (.ref x))
  | .ext φ => φ h ∧ (∃ o, h.get? a = some o) ∧ ∀ h1 h2 : Heap, φ h1 → (∀ o, h1.get? a = some o → h2.get? a = some o) → φ h2
def HOk (H : Hp) (h : Heap) : Prop := ∀ a o, H a = some o → ObjOk P w H h a o
end

section
variable {P : Program} {w : World} {H H' : Hp} {h h' : Heap} {a : Addr} {o : HO}
theorem ObjOk.lt (x : ObjOk P w H h a o) : a < h.objs.size := by
  cases o with
  | lst xs => obtain ⟨_, _, _, _, e⟩ := x; exact Heap.lt_size e
  | tup xs => obtain ⟨_, _, _, _, e⟩ := x; exact Heap.lt_size e
  | dK kvs => obtain ⟨_, _, _, _, o, _, _, e, _⟩ := x; exact Heap.lt_size e
  | dT kvs => obtain ⟨_, _, _, _, o, _, _, e, _⟩ := x; exact Heap.lt_size e
  | set S n => obtain ⟨o, _, _, _, e, _⟩ := x; exact Heap.lt_size e
  | ins C dx fs => obtain ⟨_, _, _, e, _⟩ := x; exact Heap.lt_size e
  | own y => obtain ⟨_, e⟩ := x; exact Heap.lt_size e
  | xd fs => obtain ⟨_, ⟨_, _, _, e, _⟩, _⟩ := x; exact Heap.lt_size e
  | rng lo hi => obtain ⟨_, _, _, e⟩ := x; exact Heap.lt_size e
  | frz ob u => obtain ⟨e, _⟩ := x; exact Heap.lt_size e
  | tbl ps => exact Heap.lt_size (show h.get? a = some _ from x)
  | tab q => obtain ⟨_, e, _⟩ := x; exact Heap.lt_size e
  | met f y => exact Heap.lt_size (show h.get? a = some _ from x)
  | ext φ => obtain ⟨_, ⟨_, e⟩, _⟩ := x; exact Heap.lt_size e
theorem Paired.mapP {α β : Type} {F G : α → β → Prop} : ∀ {l₁ : List α} {l₂ : List β}, Paired F l₁ l₂ → (∀ a b, F a b → G a b) → Paired G l₁ l₂
  := by
  intro l₁ l₂ h f
  induction h with
  | nil => exact .nil
  | cons r t ih => exact .cons (f _ _ r) ih
theorem ObjOk.stay (x : ObjOk P w H h a o) (k : ∀ b u, (b = a ∨ H b = some (.own a)) → h.get? b = some u → h'.get? b = some u)
    (ho : ∀ b, H b = some (.own a) → H' b = some (.own a)) (ht : ∀ b xs, H b = some (.tup xs) → H' b = some (.tup xs)) : ObjOk P w H' h' a o := by
  induction o with
  | lst xs => obtain ⟨z, its, n, r, e⟩ := x; exact ⟨z, its, n, r, k _ _ (.inl rfl) e⟩
  | tup xs => obtain ⟨z, its, n, r, e⟩ := x; exact ⟨z, its, n, r, k _ _ (.inl rfl) e⟩
  | dK kvs => obtain ⟨z, y, vs, r, ob, es, ep, e, c⟩ := x; exact ⟨z, y, vs, r, ob, es, ep, k _ _ (.inl rfl) e, c⟩
  | dT kvs =>
    obtain ⟨z, y, xs, r, ob, es, ep, e, c⟩ := x
    exact ⟨z, y, xs, Paired.mapP r fun p q z => ⟨z.1, ht _ _ z.2.1, z.2.2⟩, ob, es, ep, k _ _ (.inl rfl) e, c⟩
  | set S n => obtain ⟨ob, es, ep, t, e, c⟩ := x; exact ⟨ob, es, ep, t, k _ _ (.inl rfl) e, c⟩
  | ins C dx fs =>
    obtain ⟨d, z, ne, e, mA, ⟨od, es, ep, e2, c⟩, r⟩ := x
    exact ⟨ho _ d, z, ne, k _ _ (.inl rfl) e, mA, ⟨od, es, ep, k _ _ (.inr d) e2, c⟩, r⟩
  | own y => obtain ⟨ob, e⟩ := x; exact ⟨ob, k _ _ (.inl rfl) e⟩
  | xd fs => obtain ⟨mA, ⟨od, es, ep, e, c⟩, r⟩ := x; exact ⟨mA, ⟨od, es, ep, k _ _ (.inl rfl) e, c⟩, r⟩
  | rng lo hi => obtain ⟨t, u, v, e⟩ := x; exact ⟨t, u, v, k _ _ (.inl rfl) e⟩
  | frz ob u ih => obtain ⟨e, q⟩ := x; exact ⟨k _ _ (.inl rfl) e, ih q⟩
  | tbl ps =>
    have e : h.get? a = some { cls := .none, data := .fields ps } := x
    show h'.get? a = some { cls := .none, data := .fields ps }
    exact k a _ (.inl rfl) e
  | tab q =>
    obtain ⟨ps, e, z, r⟩ := x
    refine ⟨ps, k _ _ (.inl rfl) e, z, fun pos cv q => ?_⟩
    obtain ⟨c, o, vs, t, r1, r2, r3, r4⟩ := r pos cv q
    exact ⟨c, o, vs, t, r1, ho _ r2, k _ _ (.inr r2) r3, r4⟩
  | met f y =>
    have e : h.get? a = some (PySem.W.methodObj (.ref f) (.ref y)) := x
    show h'.get? a = some (PySem.W.methodObj (.ref f) (.ref y))
    exact k a _ (.inl rfl) e
  | ext φ => obtain ⟨p, ⟨o, e⟩, st⟩ := x; exact ⟨st _ _ p fun o q => k _ _ (.inl rfl) q, ⟨o, k _ _ (.inl rfl) e⟩, st⟩
theorem HOk.lt (x : HOk P w H h) (e : H a = some o) : a < h.objs.size := (x a o e).lt
theorem HOk.fresh (x : HOk P w H h) (e : h.objs.size ≤ a) : H a = none := by
  cases q : H a with
  | none => rfl
  | some u => exact absurd (Nat.lt_of_lt_of_le (x.lt q) e) (Nat.lt_irrefl _)
theorem HOk.kept (x : HOk P w H h) (k : ∀ b u, h.get? b = some u → h'.get? b = some u) : HOk P w H h' := fun a o e =>
  (x a o e).stay (fun b u _ q => k b u q) (fun _ q => q) fun _ _ q => q
theorem HOk.laid (x : HOk P w H h) (k : ∀ b u, h.get? b = some u → h'.get? b = some u) (hp : h.objs.size ≤ a) (new : ObjOk P w (upd H a o) h' a o) : HOk P w (upd H a o) h' := fun b u e => by
  have hn := x.fresh hp
  by_cases hb : b = a
  · subst hb; rw [upd_same] at e; cases e; exact new
  · rw [upd_ne hb] at e
    exact (x b u e).stay (fun c v _ q => k c v q) (fun c q => by rw [upd_ne (ne_of_none q hn)]; exact q) fun c xs q => by rw [upd_ne (ne_of_none q hn)]; exact q
end

def Rd (H : Hp) (a : Addr) (u : HO) : Prop := H a = some u ∨ ∃ o, H a = some (.frz o u)
theorem Rd.of {H : Hp} {a : Addr} {u : HO} (h : H a = some u) : Rd H a u := .inl h
theorem Rd.ok {P : Program} {w : World} {H : Hp} {h : Heap} {a : Addr} {u : HO} (r : Rd H a u) (x : HOk P w H h) : ObjOk P w H h a u := by
  rcases r with r | ⟨o, r⟩
  · exact x a u r
  · obtain ⟨_, q⟩ := x a _ r
    exact q
def Mut : Option HO → Prop
  | some (.lst _) => True
  | some (.dK _) => True
  | some (.dT _) => True
  | some (.set _ _) => True
  | some (.ins _ _ _) => True
  | some (.ext _) => True
  | some (.tab _) => True
  | _ => False
section
variable {P : Program} {w : World} {H : Hp} {h h' : Heap} {x e : Addr} {o' : HO}
theorem HOk.write (ok : HOk P w H h) (mu : Mut (H x)) (he : e = x ∨ H e = some (.own x)) (k : ∀ b u, b ≠ e → h.get? b = some u → h'.get? b = some u) (heo : ∃ u, h'.get? e = some u)
    (new : ObjOk P w (upd H x o') h' x o') : HOk P w (upd H x o') h' := fun b u q => by
  have nown : ∀ c y, H c = some (.own y) → c ≠ x := fun c y r z => by subst z; rw [r] at mu; exact mu
  have ntup : ∀ c xs, H c = some (.tup xs) → c ≠ x := fun c xs r z => by subst z; rw [r] at mu; exact mu
  by_cases hb : b = x
  · subst hb; rw [upd_same] at q; cases q; exact new
  · rw [upd_ne hb] at q
    by_cases hbe : b = e
    · have q' : H b = some (.own x) := by
        rcases he with z | z
        · exact absurd (hbe.trans z) hb
        · rw [hbe]; exact z
      rw [q] at q'; cases q'
      obtain ⟨v, hv⟩ := heo
      exact ⟨v, by rw [hbe]; exact hv⟩
    · refine (ok b u q).stay (fun c v hc r => k c v ?_ r) (fun c r => by rw [upd_ne (nown c b r)]; exact r) fun c xs r => by rw [upd_ne (ntup c xs r)]; exact r
      rcases hc with rfl | hc
      · exact hbe
      · rintro rfl
        rcases he with z | z
        · exact nown c b hc z
        · rw [hc] at z; cases z; exact hb rfl
end

structure Un (fs ex : List Addr) (H H' : Hp) (h h' : Heap) : Prop where
  keep : ∀ b o, h.get? b = some o → H b = none → b ∉ fs → b ∉ ex → h'.get? b = some o
  slot : ∀ b o, h.get? b = some o → H b = none → b ∈ fs → b ∉ ex → ∃ sl, h'.get? b = some { o with slots := sl }
  free : ∀ b o, h.get? b = some o → H b = none → b ∉ ex → H' b = none
  there : ∀ b o, h.get? b = some o → b ∉ ex → ∃ o', h'.get? b = some o'
  tups : ∀ b xs, H b = some (.tup xs) → H' b = some (.tup xs)
  frzs : ∀ b o u, H b = some (.frz o u) → H' b = some (.frz o u)
  tbls : ∀ b ps, H b = some (.tbl ps) → ∃ more, H' b = some (.tbl (ps ++ more))
section
variable {fs fs' ex ex' : List Addr} {H H1 H2 : Hp} {h h1 h2 h' : Heap} {a x e : Addr} {o : HO}
theorem Un.any (u : Un fs ex H H1 h h1) {b : Addr} {ob : Obj} (q : h.get? b = some ob) (n : H b = none) (hx : b ∉ ex) : ∃ sl, h1.get? b = some { ob with slots := sl } := by
  by_cases hb : b ∈ fs
  · exact u.slot b ob q n hb hx
  · exact ⟨ob.slots, u.keep b ob q n hb hx⟩
theorem Un.trans (a : Un fs ex H H1 h h1) (b : Un fs ex H1 H2 h1 h2) : Un fs ex H H2 h h2 where
  keep := fun c ob q n hc hx => b.keep c ob (a.keep c ob q n hc hx) (a.free c ob q n hx) hc hx
  slot := fun c ob q n hc hx => by
    obtain ⟨sl, e1⟩ := a.slot c ob q n hc hx
    obtain ⟨sl', e2⟩ := b.slot c _ e1 (a.free c ob q n hx) hc hx
    exact ⟨sl', e2⟩
  free := fun c ob q n hx => by
    obtain ⟨o', e1⟩ := a.there c ob q hx
    exact b.free c o' e1 (a.free c ob q n hx) hx
  there := fun c ob q hx => by
    obtain ⟨o', e1⟩ := a.there c ob q hx
    exact b.there c o' e1 hx
  tups := fun c xs q => b.tups c xs (a.tups c xs q)
  frzs := fun c ob xs q => b.frzs c ob xs (a.frzs c ob xs q)
  tbls := fun c ps q => by
    obtain ⟨m1, e1⟩ := a.tbls c ps q
    obtain ⟨m2, e2⟩ := b.tbls c _ e1
    exact ⟨m1 ++ m2, by rw [e2, Array.append_assoc]⟩
theorem Un.kept (k : ∀ b u, h.get? b = some u → h'.get? b = some u) : Un fs ex H H h h' :=
  ⟨fun b ob q _ _ _ => k b ob q, fun b ob q _ _ _ => ⟨ob.slots, k b ob q⟩, fun _ _ _ n _ => n, fun b ob q _ => ⟨ob, k b ob q⟩, fun _ _ q => q, fun _ _ _ q => q, fun _ ps q => ⟨#[], by rw [q]; simp⟩⟩
theorem Un.refl : Un fs ex H H h h := Un.kept fun _ _ q => q
theorem Un.laid (k : ∀ b u, h.get? b = some u → h'.get? b = some u) (hp : h.objs.size ≤ a) (hn : H a = none) : Un fs ex H (upd H a o) h h' where
  keep := fun b u q _ _ _ => k b u q
  slot := fun b u q _ _ _ => ⟨u.slots, k b u q⟩
  free := fun b u q n _ => by rw [upd_ne (Nat.ne_of_lt (Nat.lt_of_lt_of_le (Heap.lt_size q) hp))]; exact n
  there := fun b u q _ => ⟨u, k b u q⟩
  tups := fun b xs q => by rw [upd_ne (ne_of_none q hn)]; exact q
  frzs := fun b u xs q => by rw [upd_ne (ne_of_none q hn)]; exact q
  tbls := fun b ps q => ⟨#[], by rw [upd_ne (ne_of_none q hn), q]; simp⟩
theorem Un.write (mu : Mut (H x)) (he : e = x ∨ H e = some (.own x)) (k : ∀ b u, b ≠ e → h.get? b = some u → h'.get? b = some u) (heo : ∃ u, h'.get? e = some u) : Un fs ex H (upd H x o) h h' := by
  have hx : ∀ b, H b = none → b ≠ x := fun b n z => by subst z; rw [n] at mu; exact mu
  have hb : ∀ b, H b = none → b ≠ e := fun b n z => by
    subst z
    rcases he with r | r
    · exact hx b n r
    · rw [n] at r; cases r
  have hm : ∀ b u, H b = some u → ¬ Mut (some u) → b ≠ x := fun b u q nm z => by subst z; rw [q] at mu; exact nm mu
  refine ⟨fun b u q n _ _ => k b u (hb b n) q, fun b u q n _ _ => ⟨u.slots, k b u (hb b n) q⟩, fun b u q n _ => by rw [upd_ne (hx b n)]; exact n, fun b u q _ => ?_,
    fun b xs q => by rw [upd_ne (hm b _ q fun z => z)]; exact q, fun b u xs q => by rw [upd_ne (hm b _ q fun z => z)]; exact q, fun b ps q => ⟨#[], by rw [upd_ne (hm b _ q fun z => z), q]; simp⟩⟩
  by_cases hbe : b = e
  · subst hbe; exact heo
  · exact ⟨u, k b u hbe q⟩
theorem Un.mono (u : Un fs ex H H1 h h1) (hs : ∀ b ∈ fs, b ∈ fs') (hx : ∀ b ∈ ex, b ∈ ex') : Un fs' ex' H H1 h h1 :=
  ⟨fun b ob q n hb he => u.keep b ob q n (fun z => hb (hs b z)) fun z => he (hx b z), fun _ _ q n _ he => u.any q n fun z => he (hx _ z), fun b ob q n he => u.free b ob q n fun z => he (hx b z), fun b ob q he => u.there b ob q fun z => he (hx b z), u.tups, u.frzs, u.tbls⟩
end

def trk (h : Heap) (H : Hp) : List Addr := (List.range h.objs.size).filter fun a => (H a).isSome
def hidT (h : Heap) (H : Hp) : Heap := PySem.W.hideAll h (trk h H)
theorem hidT_size (h : Heap) (H : Hp) : (hidT h H).objs.size = h.objs.size := PySem.W.hideAll_size _ _
theorem hidT_get {h : Heap} {H : Hp} {b : Addr} {o : Obj} (e : h.get? b = some o) (n : H b = none) : (hidT h H).get? b = some o :=
  PySem.W.hideAll_get _ e fun hm => by
    have q : (H b).isSome = true := (List.mem_filter.mp hm).2
    rw [n] at q; simp at q
theorem of_hidT {h : Heap} {H : Hp} {b : Addr} {o : Obj} (e : (hidT h H).get? b = some o) : h.get? b = some o ∧ H b = none := by
  have e' : h.get? b = some o := PySem.W.of_hideAll (trk h H) e
  refine ⟨e', ?_⟩
  cases q : H b with
  | none => rfl
  | some x =>
    have hm : b ∈ trk h H := List.mem_filter.mpr ⟨List.mem_range.mpr (Heap.lt_size e'), by simp [q]⟩
    have z : (hidT h H).get? b = none := PySem.W.hideAll_none (trk h H) hm
    rw [z] at e; cases e

def allNews (g h : Heap) (L : Addr) : List (Addr × Obj) := (List.range h.objs.size).filterMap fun a => if a = L ∨ (g.get? a).isSome = true then none else (h.get? a).map fun o => (a, o)
def rest (g h : Heap) (L d : Addr) : List (Addr × Obj) := (allNews g h L).filter fun p => decide (p.1 ≠ d)
end L2

namespace L2
open PySem PySem.Spec PyProof.Rows

structure Mod (K : PySem.W.Frag) (mg : Str → Option Value) (base : Heap) : Prop where
  kin : K.In base
  glob : base.Ns mainGlobals mg
  blt : ∃ mb, base.Ns builtinsNs mb ∧ ∀ x : Str, x ≠ "__name__" → mb x = bootBuiltins x
  nolimit : base.NoLimit
  mods : ∃ mm, base.Ns sysModules mm

structure Cx where
  prog : Program
  w : World
  K : PySem.W.Frag
  mg : Str → Option Value
  base : Heap
  A : Around
  N : List Str
  s₀ : Shared
  H₀ : Hp
  env : Env
  outer : List Env
  stack : List Env
  ex : List Addr
  fn : Str → Bool
  calm : Bool
  pn : List (Addr × Obj)
  xe : Value → Shared → Prop
def frs (l : List Env) : List Addr := l.filterMap (·.frame)
abbrev Cx.fs (X : Cx) : List Addr := frs X.outer

def Vis (sc : Scope) (x : Str) : Prop := sc.names.lookup x = some .local ∨ sc.names.lookup x = some .cell ∨ sc.names.lookup x = some .free
def Loc (sc : Scope) (x : Str) : Prop := sc.names.lookup x = some .local ∨ sc.names.lookup x = some .cell
def Look (env : Env) (h : Heap) (m : Str → Option Value) (x : Str) (u : Value) : Prop :=
  (env.kindOf x = some .local ∧ m x = some u) ∨ ((env.kindOf x = some .cell ∨ env.kindOf x = some .free) ∧ ∃ c, env.cells.lookup x = some c ∧ h.IsCell c (some u))

structure Cx.Ok (X : Cx) : Prop where
  mod : Mod X.K X.mg X.base
  kind : X.env.scope.kind = .function
  glob : X.env.globals = mainGlobals
  blt : X.env.builtins = builtinsNs
  above : X.s₀.heap.objs.size ≤ X.env.locals
  inj : ∀ x y c, X.env.cells.lookup x = some c → X.env.cells.lookup y = some c → x = y
  has : ∀ x, (X.env.kindOf x = some .cell ∨ X.env.kindOf x = some .free) → ∃ c, X.env.cells.lookup x = some c
  cab : ∀ x c, X.fn x = true → X.env.cells.lookup x = some c → X.s₀.heap.objs.size ≤ c
  hd : X.calm = true → X.A.handled = none
  frames : X.A.frames = some X.stack
  stk : X.stack = X.outer ∨ (X.stack = X.env :: X.outer ∧ X.env.frame = some X.env.locals)
  exf : ∀ b ∈ X.ex, b ≠ X.env.locals ∧ ∀ x c, X.env.cells.lookup x = some c → c ≠ b
  bs : ∀ b o, X.base.get? b = some o → X.s₀.heap.get? b = some o ∧ X.H₀ b = none
  bsz : X.base.objs.size ≤ X.s₀.heap.objs.size
  noex : ∀ b o, X.base.get? b = some o → b ∉ X.ex
  exfs : ∀ b ∈ X.ex, b ∉ X.fs
  funs : X.s₀.heap.FunFrames X.base X.outer
  frf : ∀ b ∈ X.fs, X.H₀ b = none

structure Inv (X : Cx) (pins : List (Addr × Obj)) (σ : List (Option V)) (H : Hp) (s : Shared) : Prop where
  ok : X.Ok
  os : s.os = X.s₀.os
  bare : AllBare s.gens
  base : Un X.fs X.ex X.H₀ H X.s₀.heap s.heap
  loc : ∃ m, s.heap.Ns X.env.locals m ∧ ∀ (i : Nat) (x : Str) (v : V), X.N[i]? = some x → σ[i]? = some (some v) → Vis X.env.scope x → ∃ u, RelV v u ∧ Look X.env s.heap m x u
  cell : ∀ x c, X.env.cells.lookup x = some c → ∃ v, s.heap.IsCell c v
  free : H X.env.locals = none
  freeC : ∀ x c, X.env.cells.lookup x = some c → H c = none
  pin : ∀ p ∈ X.pn ++ pins, s.heap.get? p.1 = some p.2 ∧ H p.1 = none ∧ p.1 ≠ X.env.locals ∧ p.1 ∉ X.fs ∧ ∀ v, p.2.data ≠ .cell v
  hok : HOk X.prog X.w H s.heap
  len : σ.length = X.N.length

section
variable {X : Cx} {pins : List (Addr × Obj)} {σ : List (Option V)} {H H' : Hp} {s : Shared} {h' : Heap}

theorem Cx.Ok.nofr (ok : X.Ok) {b : Addr} {o : Obj} (e : X.base.get? b = some o) : b ∉ X.fs := fun hb => by
  have := (ok.funs.mem hb).1
  rw [e] at this; cases this
theorem Inv.bs (I : Inv X pins σ H s) : ∀ b o, X.base.get? b = some o → s.heap.get? b = some o ∧ H b = none := fun b o e =>
  ⟨I.base.keep b o (I.ok.bs b o e).1 (I.ok.bs b o e).2 (I.ok.nofr e) (I.ok.noex b o e), I.base.free b o (I.ok.bs b o e).1 (I.ok.bs b o e).2 (I.ok.noex b o e)⟩
theorem Inv.bk (I : Inv X pins σ H s) : ∀ b o, X.base.get? b = some o → s.heap.get? b = some o := fun b o e => (I.bs b o e).1
theorem Inv.mod (I : Inv X pins σ H s) : Mod X.K X.mg X.base := I.ok.mod
theorem Inv.kIn (I : Inv X pins σ H s) : X.K.In s.heap := I.ok.mod.kin.keeps I.bk
theorem Inv.nolimit (I : Inv X pins σ H s) : s.heap.NoLimit := I.ok.mod.nolimit.keeps I.bk
theorem Inv.fr (I : Inv X pins σ H s) : ∃ m, Fr X.base X.env.locals s.heap m :=
  let ⟨m, hn, _⟩ := I.loc
  ⟨m, hn, I.bk, Nat.le_trans I.ok.bsz I.ok.above⟩
theorem Inv.lt (I : Inv X pins σ H s) : X.env.locals < s.heap.objs.size := let ⟨_, hn, _⟩ := I.loc; hn.lt
theorem Inv.sz (I : Inv X pins σ H s) : X.s₀.heap.objs.size ≤ s.heap.objs.size := Nat.le_trans I.ok.above (Nat.le_of_lt I.lt)
theorem Inv.nofs (I : Inv X pins σ H s) {a : Addr} (h : s.heap.objs.size ≤ a) : a ∉ X.fs := fun hb => by
  obtain ⟨_, o, ho, _⟩ := I.ok.funs.mem hb
  exact absurd (Nat.lt_of_lt_of_le (Heap.lt_size ho) (Nat.le_trans I.sz h)) (Nat.lt_irrefl _)
theorem Inv.cne (I : Inv X pins σ H s) : ∀ x c, X.env.cells.lookup x = some c → c ≠ X.env.locals := fun x c e z => by
  obtain ⟨v, o, ho, hd⟩ := I.cell x c e
  obtain ⟨m, ⟨o', es, ep, ho', hd', _⟩, _⟩ := I.loc
  rw [z, ho'] at ho; cases ho; rw [hd'] at hd; cases hd
theorem Inv.funs (I : Inv X pins σ H s) : s.heap.FunFrames X.base X.outer := by
  have all : ∀ (l : List Env), (∀ b ∈ frs l, b ∈ X.fs) → X.s₀.heap.FunFrames X.base l → s.heap.FunFrames X.base l := by
    intro l
    induction l with
    | nil => intro _ _; trivial
    | cons env r ih =>
      intro hs hl
      obtain ⟨hk, ⟨L, o, hf, hn, ho, hd⟩, hr⟩ := hl
      have hL : L ∈ X.fs := hs L (by unfold frs; rw [List.filterMap_cons, hf]; exact List.mem_cons_self)
      obtain ⟨sl, e⟩ := I.base.slot L o ho (I.ok.frf L hL) hL fun z => I.ok.exfs L z hL
      exact ⟨hk, ⟨L, _, hf, hn, e, hd⟩, ih (fun b hb => hs b (by unfold frs; rw [List.filterMap_cons, hf]; exact List.mem_cons_of_mem _ hb)) hr⟩
  exact all X.outer (fun _ hb => hb) I.ok.funs

theorem Inv.stack (I : Inv X pins σ H s) : s.heap.FunFrames X.base X.stack := by
  rcases I.ok.stk with e | ⟨e, hf⟩
  · rw [e]; exact I.funs
  · rw [e]
    obtain ⟨m, hn, _⟩ := I.loc
    refine .cons (by rw [I.ok.kind]; decide) hf hn ?_ I.funs
    exact Heap.get?_none_of_le (Nat.le_trans I.ok.bsz I.ok.above)
theorem Inv.stkSub (I : Inv X pins σ H s) : ∀ b ∈ frs X.stack, b ∈ X.env.locals :: X.fs := fun b hb => by
  rcases I.ok.stk with e | ⟨e, hf⟩
  · rw [e] at hb; exact List.mem_cons_of_mem _ hb
  · rw [e] at hb
    unfold frs at hb
    rw [List.filterMap_cons, hf] at hb
    exact hb
theorem Inv.stkFree (I : Inv X pins σ H s) : ∀ b ∈ frs X.stack, H b = none := fun b hb => by
  rcases List.mem_cons.mp (I.stkSub b hb) with e | hb
  · rw [e]; exact I.free
  · obtain ⟨_, o, ho, _⟩ := I.ok.funs.mem hb
    exact I.base.free b o ho (I.ok.frf b hb) fun z => I.ok.exfs b z hb

theorem Inv.step {g' : Array GenState} {t' : Nat} {d' : Drawn} {ch : List Addr} (I : Inv X pins σ H s)
    (hch : ∀ b ∈ ch, (b ∈ X.ex ∨ X.s₀.heap.objs.size ≤ b) ∧ b ≠ X.env.locals ∧ (∀ x c, X.env.cells.lookup x = some c → c ≠ b) ∧ ∀ p ∈ X.pn ++ pins, p.1 ≠ b)
    (keep : ∀ b o, b ≠ X.env.locals → b ∉ X.fs → b ∉ ch → s.heap.get? b = some o → H b = none → h'.get? b = some o)
    (slot : ∀ b o, b ≠ X.env.locals → b ∈ X.fs → b ∉ ch → s.heap.get? b = some o → H b = none → ∃ sl, h'.get? b = some { o with slots := sl }) (free : ∀ b o, b ∉ ch → s.heap.get? b = some o → H b = none → H' b = none)
    (there : ∀ b o, b ∉ ch → s.heap.get? b = some o → ∃ o', h'.get? b = some o')
    (tups : ∀ b xs, H b = some (.tup xs) → H' b = some (.tup xs)) (frzs : ∀ b o u, H b = some (.frz o u) → H' b = some (.frz o u)) (tbls : ∀ b ps, H b = some (.tbl ps) → ∃ more, H' b = some (.tbl (ps ++ more)))
    (ns : ∀ m, s.heap.Ns X.env.locals m → h'.Ns X.env.locals m) (hok : HOk X.prog X.w H' h') (hg : AllBare g') :
    Inv X pins σ H' { s with heap := h', gens := g', drawn := d', toks := t' } := by
  have neL : ∀ b o, X.s₀.heap.get? b = some o → b ≠ X.env.locals := fun b o e => Nat.ne_of_lt (Nat.lt_of_lt_of_le (Heap.lt_size e) I.ok.above)
  have neC : ∀ b o, X.s₀.heap.get? b = some o → b ∉ X.ex → b ∉ ch := fun b o e hx hb => by
    rcases (hch b hb).1 with z | z
    · exact hx z
    · exact absurd (Nat.lt_of_lt_of_le (Heap.lt_size e) z) (Nat.lt_irrefl _)
  have cellK : ∀ x c, X.env.cells.lookup x = some c → ∀ v, s.heap.IsCell c v → h'.IsCell c v := fun x c e v ⟨o, ho, hd⟩ => by
    have nch : c ∉ ch := fun z => (hch c z).2.2.1 x c e rfl
    by_cases hc : c ∈ X.fs
    · obtain ⟨sl, q⟩ := slot c o (I.cne x c e) hc nch ho (I.freeC x c e)
      exact ⟨_, q, hd⟩
    · exact ⟨o, keep c o (I.cne x c e) hc nch ho (I.freeC x c e), hd⟩
  refine ⟨I.ok, I.os, hg, ⟨fun b o e n hb hx => ?_, fun b o e n hb hx => ?_, fun b o e n hx => ?_, fun b o e hx => ?_, fun b xs e => tups b xs (I.base.tups b xs e), fun b o xs e => frzs b o xs (I.base.frzs b o xs e), fun b ps e => ?_⟩, ?_, fun x c e => ?_, ?_, fun x c e => ?_, fun p hp => ?_, hok, I.len⟩
  · exact keep b o (neL b o e) hb (neC b o e hx) (I.base.keep b o e n hb hx) (I.base.free b o e n hx)
  · obtain ⟨sl, e1⟩ := I.base.slot b o e n hb hx
    obtain ⟨sl', e2⟩ := slot b _ (neL b o e) hb (neC b o e hx) e1 (I.base.free b o e n hx)
    exact ⟨sl', e2⟩
  · obtain ⟨o', e1⟩ := I.base.there b o e hx
    exact free b o' (neC b o e hx) e1 (I.base.free b o e n hx)
  · obtain ⟨o', e1⟩ := I.base.there b o e hx
    exact there b o' (neC b o e hx) e1
  · obtain ⟨m1, e1⟩ := I.base.tbls b ps e
    obtain ⟨m2, e2⟩ := tbls b _ e1
    exact ⟨m1 ++ m2, by rw [e2, Array.append_assoc]⟩
  · obtain ⟨m, hn, hl⟩ := I.loc
    refine ⟨m, ns m hn, fun i x v e1 e2 e3 => ?_⟩
    obtain ⟨u, r, l⟩ := hl i x v e1 e2 e3
    refine ⟨u, r, ?_⟩
    rcases l with l | ⟨k, c, e, z⟩
    · exact .inl l
    · exact .inr ⟨k, c, e, cellK x c e _ z⟩
  · obtain ⟨v, z⟩ := I.cell x c e
    exact ⟨v, cellK x c e v z⟩
  · obtain ⟨m, ⟨o, _, _, ho, _⟩, _⟩ := I.loc
    exact free _ o (fun z => (hch _ z).2.1 rfl) ho I.free
  · obtain ⟨v, o, ho, hd⟩ := I.cell x c e
    exact free c o (fun z => (hch c z).2.2.1 x c e rfl) ho (I.freeC x c e)
  · obtain ⟨e, n, ne, nf, d⟩ := I.pin p hp
    have nch : p.1 ∉ ch := fun z => (hch p.1 z).2.2.2 p hp rfl
    exact ⟨keep p.1 p.2 ne nf nch e n, free p.1 p.2 nch e n, ne, nf, d⟩
theorem Inv.un {t' : Nat} (I : Inv X pins σ H s) (u : Un X.fs [] H H' s.heap h') (hok : HOk X.prog X.w H' h') : Inv X pins σ H' { s with heap := h', toks := t' } := by
  obtain ⟨m, ⟨o, es, ep, ho, r⟩, _⟩ := id I.loc
  obtain ⟨sl, hL⟩ := u.any ho I.free (by simp)
  exact I.step (g' := s.gens) (d' := s.drawn) (ch := []) (fun _ z => nomatch z) (fun b o _ hb _ e n => u.keep b o e n hb (by simp)) (fun b o _ hb _ e n => u.slot b o e n hb (by simp)) (fun b o _ e n => u.free b o e n (by simp)) (fun b o _ e => u.there b o e (by simp)) u.tups u.frzs u.tbls (fun m' hm => by
    obtain ⟨o', es', ep', ho', r'⟩ := hm
    rw [ho] at ho'; cases ho'
    exact ⟨_, es', ep', hL, r'⟩) hok I.bare
theorem Inv.call {g' : Array GenState} {t' : Nat} {d' : Drawn} {ch : List Addr} (I : Inv X pins σ H s) (u : Un (frs X.stack) ch H H' s.heap h') (hok : HOk X.prog X.w H' h') (hg : AllBare g')
    (hch : ∀ b ∈ ch, (b ∈ X.ex ∨ X.s₀.heap.objs.size ≤ b) ∧ b ≠ X.env.locals ∧ (∀ x c, X.env.cells.lookup x = some c → c ≠ b) ∧ ∀ p ∈ X.pn ++ pins, p.1 ≠ b) :
    Inv X pins σ H' { s with heap := h', gens := g', drawn := d', toks := t' } := by
  obtain ⟨m, ⟨o, es, ep, ho, r⟩, _⟩ := id I.loc
  obtain ⟨sl, hL⟩ := u.any ho I.free fun z => (hch _ z).2.1 rfl
  exact I.step (ch := ch) hch (fun b o hL hb hc e n => u.keep b o e n (fun z => (List.mem_cons.mp (I.stkSub b z)).elim hL hb) hc) (fun b o _ _ hc e n => u.any e n hc) (fun b o hc e n => u.free b o e n hc) (fun b o hc e => u.there b o e hc) u.tups u.frzs u.tbls (fun m' hm => by
    obtain ⟨o', es', ep', ho', r'⟩ := hm
    rw [ho] at ho'; cases ho'
    exact ⟨_, es', ep', hL, r'⟩) hok hg
theorem Inv.turned {t' : Nat} {it : Addr} (I : Inv X pins σ H s) (k : ∀ b o, b ≠ it → s.heap.get? b = some o → h'.get? b = some o) (hn : H it = none) (hL : it ≠ X.env.locals)
    (h1 : it ∈ X.ex ∨ X.s₀.heap.objs.size ≤ it) (h2 : ∀ x c, X.env.cells.lookup x = some c → c ≠ it) (h3 : ∀ p ∈ X.pn ++ pins, p.1 ≠ it) : Inv X pins σ H { s with heap := h', toks := t' } := by
  have nit : ∀ b u, H b = some u → b ≠ it := fun b u e z => by rw [z, hn] at e; cases e
  refine I.step (g' := s.gens) (d' := s.drawn) (ch := [it]) (fun b hb => ?_) (fun b o _ _ hc e _ => k b o (fun z => hc (by simp [z])) e) (fun b o _ _ hc e _ => ⟨o.slots, k b o (fun z => hc (by simp [z])) e⟩) (fun _ _ _ _ n => n)
    (fun b o hc e => ⟨o, k b o (fun z => hc (by simp [z])) e⟩) (fun _ _ e => e) (fun _ _ _ e => e) (fun b ps e => ⟨#[], by rw [e]; simp⟩) (fun m hm => ?_) (fun b u e => ?_) I.bare
  · have e : b = it := by simpa using hb
    subst e
    exact ⟨h1, hL, h2, h3⟩
  · obtain ⟨o, es, ep, ho, r⟩ := hm
    exact ⟨o, es, ep, k _ o (Ne.symm hL) ho, r⟩
  · refine (I.hok b u e).stay (fun c v hc q => k c v ?_ q) (fun _ q => q) fun _ _ q => q
    rcases hc with z | z
    · rw [z]; exact nit b u e
    · exact nit c _ z
theorem Inv.tok (I : Inv X pins σ H s) (t : Nat) : Inv X pins σ H { s with toks := t } := I.un (h' := s.heap) (t' := t) Un.refl I.hok
theorem Inv.kept {t' : Nat} (I : Inv X pins σ H s) (k : ∀ b u, s.heap.get? b = some u → h'.get? b = some u) : Inv X pins σ H { s with heap := h', toks := t' } := I.un (Un.kept k) (I.hok.kept k)
theorem Inv.laid {a : Addr} {o : HO} {t' : Nat} (I : Inv X pins σ H s) (k : ∀ b u, s.heap.get? b = some u → h'.get? b = some u) (hp : s.heap.objs.size ≤ a) (new : ObjOk X.prog X.w (upd H a o) h' a o) :
    Inv X pins σ (upd H a o) { s with heap := h', toks := t' } := I.un (Un.laid k hp (I.hok.fresh hp)) (I.hok.laid k hp new)
theorem Inv.write {x e : Addr} {o : HO} {t' : Nat} (I : Inv X pins σ H s) (mu : Mut (H x)) (he : e = x ∨ H e = some (.own x)) (k : ∀ b u, b ≠ e → s.heap.get? b = some u → h'.get? b = some u) (heo : ∃ u, h'.get? e = some u)
    (new : ObjOk X.prog X.w (upd H x o) h' x o) : Inv X pins σ (upd H x o) { s with heap := h', toks := t' } := I.un (Un.write mu he k heo) (I.hok.write mu he k heo new)
theorem Inv.pins_of {pins' : List (Addr × Obj)} (I : Inv X pins σ H s) (h : ∀ p ∈ pins', s.heap.get? p.1 = some p.2 ∧ H p.1 = none ∧ p.1 ≠ X.env.locals ∧ p.1 ∉ X.fs ∧ ∀ v, p.2.data ≠ .cell v) : Inv X pins' σ H s :=
  ⟨I.ok, I.os, I.bare, I.base, I.loc, I.cell, I.free, I.freeC, fun p hp => (List.mem_append.mp hp).elim (fun z => I.pin p (List.mem_append_left _ z)) (h p), I.hok, I.len⟩

theorem nodup_ix {N : List Str} (hN : N.Nodup) {i j : Nat} {x : Str} (a : N[i]? = some x) (b : N[j]? = some x) : i = j := by
  obtain ⟨h1, e1⟩ := List.getElem?_eq_some_iff.mp a
  obtain ⟨h2, e2⟩ := List.getElem?_eq_some_iff.mp b
  exact (List.getElem_inj hN).mp (e1.trans e2.symm)

theorem store_ok2 {M : Model} {A : Around} {E : Value → Shared → Prop} {i : Nat} {x : Str} {v : V} {u : Value} {Q : Unit → Shared → Prop} (I : Inv X pins σ H s) (hN : X.N.Nodup) (hi : X.N[i]? = some x) (hx : Loc X.env.scope x) (r : RelV v u)
    (h : ∀ s', Inv X pins (σ.set i (some v)) H s' → (∃ a, Heap.SameBut a s.heap s'.heap ∧ (a = X.env.locals ∨ X.env.cells.lookup x = some a)) → Q () s') (hf : X.fn x = true ∨ X.env.scope.names.lookup x = some .local := by first | exact .inl rfl | exact .inr rfl | assumption) : wpAny M A (storeName X.env x u) Q E s := by
  obtain ⟨m, hn, hl⟩ := id I.loc
  have hcls : (X.env.scope.kind == .class || (X.env.scope.kind == .module && X.env.locals != X.env.globals)) = false := by rw [I.ok.kind]; rfl
  have hiσ : i < σ.length := by rw [I.len]; exact (List.getElem?_eq_some_iff.mp hi).1
  have cne := I.cne
  have tracked : ∀ {a : Addr} {h' : Heap}, (∃ o, s.heap.get? a = some o ∧ H a = none) → Heap.SameBut a s.heap h' → HOk X.prog X.w H h' := fun {a h'} ha hs b ob e => by
    obtain ⟨_, _, hfree⟩ := ha
    refine (I.hok b ob e).stay (fun c w' hc q => (hs.2 c ?_).trans q) (fun _ q => q) fun _ _ q => q
    rintro rfl
    rcases hc with rfl | hc
    · rw [hfree] at e; cases e
    · rw [hfree] at hc; cases hc
  rcases hx with hk | hk
  · refine wpAny_storeName_local hk hn (fun h' hn' hs => ?_) hcls
    obtain ⟨oL, _, _, hoL, _⟩ := id hn
    refine h _ ⟨I.ok, I.os, I.bare, ⟨fun b o e n hb hx => ?_, fun b o e n hb hx => ?_, I.base.free, fun b o e hx => ?_, I.base.tups, I.base.frzs, I.base.tbls⟩, ⟨_, hn', fun j y v' e1 e2 e3 => ?_⟩, fun y c e => ?_, I.free, I.freeC, fun p hp => ?_, tracked ⟨oL, hoL, I.free⟩ hs, by simpa using I.len⟩ ⟨_, hs, .inl rfl⟩
    · exact (hs.2 b (Nat.ne_of_lt (Nat.lt_of_lt_of_le (Heap.lt_size e) I.ok.above))).trans (I.base.keep b o e n hb hx)
    · obtain ⟨sl, e1⟩ := I.base.slot b o e n hb hx
      exact ⟨sl, (hs.2 b (Nat.ne_of_lt (Nat.lt_of_lt_of_le (Heap.lt_size e) I.ok.above))).trans e1⟩
    · obtain ⟨o', e1⟩ := I.base.there b o e hx
      exact ⟨o', (hs.2 b (Nat.ne_of_lt (Nat.lt_of_lt_of_le (Heap.lt_size e) I.ok.above))).trans e1⟩
    · by_cases hj : j = i
      · subst hj
        rw [hi] at e1; cases e1
        rw [List.getElem?_set_self hiσ] at e2
        cases e2
        exact ⟨u, r, .inl ⟨hk, by simp⟩⟩
      · rw [List.getElem?_set_ne (Ne.symm hj)] at e2
        obtain ⟨u', r', q⟩ := hl j y v' e1 e2 e3
        refine ⟨u', r', ?_⟩
        rcases q with ⟨k, e⟩ | ⟨k, c, e, z⟩
        · refine .inl ⟨k, ?_⟩
          have : y ≠ x := fun e => hj (nodup_ix hN e1 (e ▸ hi))
          simp [this, e]
        · exact .inr ⟨k, c, e, z.sameBut hs (cne y c e)⟩
    · obtain ⟨w', z⟩ := I.cell y c e
      exact ⟨w', z.sameBut hs (cne y c e)⟩
    · obtain ⟨e, n, ne, nf, d⟩ := I.pin p hp
      exact ⟨(hs.2 p.1 ne).trans e, n, ne, nf, d⟩
  · have hfn : X.fn x = true := by
      rcases hf with z | z
      · exact z
      · rw [z] at hk; cases hk
    obtain ⟨c, hc⟩ := I.ok.has x (.inl hk)
    obtain ⟨w', z⟩ := I.cell x c hc
    refine wpAny_storeName_cell I.ok.kind hk hc z (fun h' hc' hs => ?_)
    obtain ⟨oc, hoc, hocd⟩ := id z
    refine h { s with heap := h' } ⟨I.ok, I.os, I.bare, ⟨fun b o e n hb hx => ?_, fun b o e n hb hx => ?_, I.base.free, fun b o e hx => ?_, I.base.tups, I.base.frzs, I.base.tbls⟩, ⟨m, hn.sameBut hs (Ne.symm (cne x c hc)), fun j y v' e1 e2 e3 => ?_⟩, fun y c' e => ?_, I.free, I.freeC, fun p hp => ?_, tracked ⟨oc, hoc, I.freeC x c hc⟩ hs, by simpa using I.len⟩ ⟨c, hs, .inr hc⟩
    · exact (hs.2 b (Nat.ne_of_lt (Nat.lt_of_lt_of_le (Heap.lt_size e) (I.ok.cab x c hfn hc)))).trans (I.base.keep b o e n hb hx)
    · obtain ⟨sl, e1⟩ := I.base.slot b o e n hb hx
      exact ⟨sl, (hs.2 b (Nat.ne_of_lt (Nat.lt_of_lt_of_le (Heap.lt_size e) (I.ok.cab x c hfn hc)))).trans e1⟩
    · obtain ⟨o', e1⟩ := I.base.there b o e hx
      exact ⟨o', (hs.2 b (Nat.ne_of_lt (Nat.lt_of_lt_of_le (Heap.lt_size e) (I.ok.cab x c hfn hc)))).trans e1⟩
    · by_cases hj : j = i
      · subst hj
        rw [hi] at e1; cases e1
        rw [List.getElem?_set_self hiσ] at e2
        cases e2
        exact ⟨u, r, .inr ⟨.inl hk, c, hc, hc'⟩⟩
      · rw [List.getElem?_set_ne (Ne.symm hj)] at e2
        obtain ⟨u', r', q⟩ := hl j y v' e1 e2 e3
        refine ⟨u', r', ?_⟩
        rcases q with q | ⟨k, c', e, z'⟩
        · exact .inl q
        · refine .inr ⟨k, c', e, z'.sameBut hs ?_⟩
          rintro rfl
          exact hj (nodup_ix hN e1 (I.ok.inj _ _ _ e hc ▸ hi))
    · by_cases hcc : c' = c
      · subst hcc; exact ⟨_, hc'⟩
      · obtain ⟨w2, z2⟩ := I.cell y c' e
        exact ⟨w2, z2.sameBut hs hcc⟩
    · obtain ⟨e, n, ne, nf, d⟩ := I.pin p hp
      refine ⟨(hs.2 p.1 ?_).trans e, n, ne, nf, d⟩
      intro q
      rw [q, hoc] at e
      have q' : oc = p.2 := Option.some.inj e
      exact d w' (by rw [← q']; exact hocd)
theorem store_ok {M : Model} {A : Around} {E : Value → Shared → Prop} {i : Nat} {x : Str} {v : V} {u : Value} {Q : Unit → Shared → Prop} (I : Inv X pins σ H s) (hN : X.N.Nodup) (hi : X.N[i]? = some x) (hx : Loc X.env.scope x) (r : RelV v u)
    (h : ∀ s', Inv X pins (σ.set i (some v)) H s' → Q () s') (hf : X.fn x = true ∨ X.env.scope.names.lookup x = some .local := by first | exact .inl rfl | exact .inr rfl | assumption) : wpAny M A (storeName X.env x u) Q E s :=
  store_ok2 I hN hi hx r (fun s' I' _ => h s' I') hf
theorem Inv.call' {s' : Shared} {ch : List Addr} (I : Inv X pins σ H s) (ho : s'.os = s.os) (u : Un (frs X.stack) ch H H' s.heap s'.heap) (hok : HOk X.prog X.w H' s'.heap) (hg : AllBare s'.gens)
    (hch : ∀ b ∈ ch, (b ∈ X.ex ∨ X.s₀.heap.objs.size ≤ b) ∧ b ≠ X.env.locals ∧ (∀ x c, X.env.cells.lookup x = some c → c ≠ b) ∧ ∀ p ∈ X.pn ++ pins, p.1 ≠ b) : Inv X pins σ H' s' := by
  obtain ⟨h', g', d', t', o'⟩ := s'
  have e : o' = s.os := ho
  subst e
  exact I.call (g' := g') (t' := t') (d' := d') u hok hg hch
end

abbrev XK := Value → Option Addr → Hp → Prop
abbrev St := List (Option V)
abbrev VK := V → Hp → Prop
abbrev TE := St → Hp → VK → Prop
abbrev TT := St → Hp → (Bool → Hp → Prop) → Prop
abbrev TA := St → Hp → (List V → Hp → Prop) → Prop
structure Ends where
  nx : St → Hp → Prop
  rt : VK
  bk : St → Hp → Prop := fun _ _ => False
  ct : St → Hp → Prop := fun _ _ => False
abbrev TS := Ends → St → Hp → Prop

def EP (X : Cx) (pins : List (Addr × Obj)) (σ : St) (Q : VK) (u : Value) (s' : Shared) : Prop := ∃ v H', Inv X pins σ H' s' ∧ RelV v u ∧ Q v H'
def TP (X : Cx) (pins : List (Addr × Obj)) (σ : St) (Q : Bool → Hp → Prop) (b : Bool) (s' : Shared) : Prop := ∃ H', Inv X pins σ H' s' ∧ Q b H'
def AP (X : Cx) (pins : List (Addr × Obj)) (σ : St) (Q : List V → Hp → Prop) (us : List Value) (s' : Shared) : Prop := ∃ vs H', Inv X pins σ H' s' ∧ Vals vs us ∧ Q vs H'
def SP (X : Cx) (pins : List (Addr × Obj)) (D : Ends) (f : Flow) (s' : Shared) : Prop :=
  match f with
  | .next => ∃ σ' H', Inv X pins σ' H' s' ∧ D.nx σ' H'
  | .brk => ∃ σ' H', Inv X pins σ' H' s' ∧ D.bk σ' H'
  | .cont => ∃ σ' H', Inv X pins σ' H' s' ∧ D.ct σ' H'
  | .ret u => ∃ v σ' H', Inv X pins σ' H' s' ∧ RelV v u ∧ D.rt v H'

def PE (X : Cx) (e : Expr) (t : TE) : Prop :=
  ∀ (pins : List (Addr × Obj)) (s : Shared) (σ : St) (H : Hp) (Q : VK), Inv X pins σ H s → t σ H Q → wpAny (model X.prog X.w) X.A (eval e X.env) (EP X pins σ Q) X.xe s
def PT (X : Cx) (e : Expr) (t : TT) : Prop :=
  ∀ (pins : List (Addr × Obj)) (s : Shared) (σ : St) (H : Hp) (Q : Bool → Hp → Prop), Inv X pins σ H s → t σ H Q → wpAny (model X.prog X.w) X.A (isTrue e X.env (eval e X.env)) (TP X pins σ Q) X.xe s
def PW (X : Cx) (e : Expr) (t : TT) : Prop :=
  ∀ (whole : Sem Value) (pins : List (Addr × Obj)) (s : Shared) (σ : St) (H : Hp) (Q : Bool → Hp → Prop), Inv X pins σ H s → t σ H Q → wpAny (model X.prog X.w) X.A (isTrue e X.env whole) (TP X pins σ Q) X.xe s
theorem PW.pt {X : Cx} {e : Expr} {t : TT} (h : PW X e t) : PT X e t := h _
def PA (X : Cx) (es : List Expr) (t : TA) : Prop :=
  ∀ (pos : Pos) (pins : List (Addr × Obj)) (s : Shared) (σ : St) (H : Hp) (Q : List V → Hp → Prop), Inv X pins σ H s → t σ H Q → wpAny (model X.prog X.w) X.A (spliced (backTo pos (starEach es X.env))) (AP X pins σ Q) X.xe s
def PS (X : Cx) (st : Stmt) (t : TS) : Prop :=
  ∀ (pins : List (Addr × Obj)) (s : Shared) (σ : St) (H : Hp) (D : Ends), Inv X pins σ H s → t D σ H → wpAny (model X.prog X.w) X.A (exec st X.env) (SP X pins D) X.xe s
def PSs (X : Cx) (st : List Stmt) (t : TS) : Prop :=
  ∀ (pins : List (Addr × Obj)) (s : Shared) (σ : St) (H : Hp) (D : Ends), Inv X pins σ H s → t D σ H → wpAny (model X.prog X.w) X.A (execs st X.env) (SP X pins D) X.xe s
theorem thn {α : Type} {t : Sem α} {Q Q' : α → Shared → Prop} {M : Model} {A : Around} {E : Value → Shared → Prop} {s : Shared} (h : wpAny M A t Q E s) (hQ : ∀ a s, Q a s → Q' a s) : wpAny M A t Q' E s := wpAny_mono h hQ fun _ _ x => x
end L2

namespace L2
open PySem PySem.Spec PyProof.Rows
section
variable {X : Cx}

def tVar (i : Nat) : TE := fun σ H Q => ∃ v, σ[i]? = some (some v) ∧ Q v H
abbrev tC (v : V) : TE := fun _ H Q => Q v H
theorem pe_var {i : Nat} {x : Str} {pos : Pos} (hN : X.N[i]? = some x) (hv : Vis X.env.scope x) (hd : (x == ("__debug__" : Str)) = false := by decide) (hcd : (x == ("__classdict__" : Str)) = false := by decide) : PE X (.Name x pos) (tVar i) := by
  intro pins s σ H Q I h
  obtain ⟨v, e, h⟩ := h
  obtain ⟨m, hn, hl⟩ := I.loc
  obtain ⟨u, r, l⟩ := hl i x v hN e hv
  have fin : EP X pins σ Q u s := ⟨v, H, I, r, h⟩
  rcases l with ⟨hk, hm⟩ | ⟨hk, c, hc, hcell⟩
  · exact wpAny_Name (wpAny_loadName_local I.ok.kind hk hn hm fin) hd
  · rcases hk with hk | hk
    · exact wpAny_Name (wpAny_loadName_cell I.ok.kind hk hc hcell fin) hd
    · exact wpAny_Name (wpAny_loadName_free I.ok.kind hk hc hcell fin hcd) hd
theorem pe_int {i j pos} : PE X (.Constant (.int i) j pos) (tC (.int i)) := fun _ _ _ H _ I h => wpAny_Constant_int ⟨.int i, H, I.tok _, ⟨_, rfl⟩, h⟩
theorem pe_bl {b j pos} : PE X (.Constant (.bool b) j pos) (tC (.bl b)) := fun _ _ _ H _ I h => Constant_bool ⟨.bl b, H, I, rfl, h⟩
theorem pe_str {x j pos} : PE X (.Constant (.str x) j pos) (tC (.str x)) := fun _ _ _ H _ I h => Calls.Constant_str ⟨.str x, H, I.tok _, ⟨_, rfl⟩, h⟩

def Gl (X : Cx) (x : Str) : Prop := X.env.kindOf x = some .globalImplicit
theorem ld_glob {E : Value → Shared → Prop} {pins : List (Addr × Obj)} {s : Shared} {σ : St} {H : Hp} {x : Str} {u : Value} {pos : Pos} {Q : Value → Shared → Prop} (I : Inv X pins σ H s) (hg : Gl X x) (hm : X.mg x = some u) (h : Q u s)
    (hd : (x == ("__debug__" : Str)) = false := by decide) : wpAny (model X.prog X.w) X.A (eval (.Name x pos) X.env) Q E s :=
  Calls.Name_function_global I.ok.kind hg (Calls.loadGlobal_global (by rw [I.ok.glob]; exact I.mod.glob.keeps I.bk) hm h) hd
theorem ld_blt {E : Value → Shared → Prop} {pins : List (Addr × Obj)} {s : Shared} {σ : St} {H : Hp} {x : Str} {u : Value} {pos : Pos} {Q : Value → Shared → Prop} (I : Inv X pins σ H s) (hg : Gl X x) (hm : X.mg x = none) (hv : bootBuiltins x = some u) (h : Q u s)
    (hn : x ≠ "__name__" := by decide) (hd : (x == ("__debug__" : Str)) = false := by decide) : wpAny (model X.prog X.w) X.A (eval (.Name x pos) X.env) Q E s := by
  obtain ⟨mb, h1, h2⟩ := I.mod.blt
  exact Calls.Name_function_global I.ok.kind hg (Calls.loadGlobal_builtin (by rw [I.ok.glob]; exact I.mod.glob.keeps I.bk) hm (by rw [I.ok.blt]; exact h1.keeps I.bk) ((h2 x hn).trans hv) h) hd
theorem pe_glob {x : Str} {v : V} {u : Value} {pos : Pos} (hg : Gl X x) (hm : X.mg x = some u) (r : RelV v u) (hd : (x == ("__debug__" : Str)) = false := by decide) : PE X (.Name x pos) (tC v) :=
  fun _ _ _ H _ I h => ld_glob I hg hm ⟨v, H, I, r, h⟩ hd
theorem pe_bltn {x : Str} {v : V} {u : Value} {pos : Pos} (hg : Gl X x) (hm : X.mg x = none) (hv : bootBuiltins x = some u) (r : RelV v u) (hn : x ≠ "__name__" := by decide) (hd : (x == ("__debug__" : Str)) = false := by decide) : PE X (.Name x pos) (tC v) :=
  fun _ _ _ H _ I h => ld_blt I hg hm hv ⟨v, H, I, r, h⟩ hn hd

variable {a b : Expr} {ta tb : TE} {pos : Pos}
def tB (t : TE) : TT := fun σ H Q => t σ H fun x H1 => ∃ c, x = .bl c ∧ Q c H1
theorem pt_val {e : Expr} {t : TE} (h : PE X e t) (he : ∀ whole, isTrue e X.env whole = (do let v ← whole; standAt e.pos; holding [v] (truthy v)) := by intro _; rfl) : PT X e (tB t) := by
  intro pins s σ H Q I hw
  refine isTrue_plain (thn (h pins s σ H _ I hw) fun v s1 hx9 => ?_) (he _)
  obtain ⟨x, H1, I1, r1, q1⟩ := hx9
  obtain ⟨d, rfl, q⟩ := q1
  cases r1
  exact wpAny_truthy_bool ⟨H1, I1, q⟩

variable {tA tB' : TT} {rest : List Expr}
def tAnd (t u : TT) : TT := fun σ H Q => t σ H fun c H1 => if c = true then u σ H1 Q else Q false H1
def tOr (t u : TT) : TT := fun σ H Q => t σ H fun c H1 => if c = true then Q true H1 else u σ H1 Q
def tNot (t : TT) : TT := fun σ H Q => t σ H fun c H1 => Q (!c) H1
theorem pw_and1 (ha : PT X a tA) : PW X (.BoolOp .And [a] pos) tA := by
  intro wh pins s σ H Q I h
  refine isTrue_and (thn (ha pins s σ H Q I h) fun c s1 e => ?_)
  cases c with
  | true => exact isTrue_and_nil e
  | false => exact e
theorem pw_or1 (ha : PT X a tA) : PW X (.BoolOp .Or [a] pos) tA := by
  intro wh pins s σ H Q I h
  refine isTrue_or (thn (ha pins s σ H Q I h) fun c s1 e => ?_)
  cases c with
  | false => exact isTrue_or_nil e
  | true => exact e
theorem pw_and (ha : PT X a tA) (hb : PW X (.BoolOp .And (b :: rest) pos) tB') : PW X (.BoolOp .And (a :: b :: rest) pos) (tAnd tA tB') := by
  intro wh pins s σ H Q I h
  refine isTrue_and (thn (ha pins s σ H _ I h) fun c s1 hx9 => ?_)
  obtain ⟨H1, I1, q1⟩ := hx9
  cases c with
  | true => exact hb wh pins s1 σ H1 Q I1 q1
  | false => exact ⟨H1, I1, q1⟩
theorem pw_or (ha : PT X a tA) (hb : PW X (.BoolOp .Or (b :: rest) pos) tB') : PW X (.BoolOp .Or (a :: b :: rest) pos) (tOr tA tB') := by
  intro wh pins s σ H Q I h
  refine isTrue_or (thn (ha pins s σ H _ I h) fun c s1 hx9 => ?_)
  obtain ⟨H1, I1, q1⟩ := hx9
  cases c with
  | true => exact ⟨H1, I1, q1⟩
  | false => exact hb wh pins s1 σ H1 Q I1 q1
theorem pt_not (ha : PT X a tA) : PT X (.UnaryOp .Not a pos) (tNot tA) := by
  intro pins s σ H Q I h
  exact isTrue_not (ha pins s σ H (fun c H1 => Q (!c) H1) I h)
def tAndV (ta tb : TE) : TE := fun σ H Q => ta σ H fun x H1 => ∃ c, x = .bl c ∧ if c = true then tb σ H1 Q else Q (.bl false) H1
def tNotV (ta : TE) : TE := fun σ H Q => ta σ H fun x H1 => ∃ c, x = .bl c ∧ Q (.bl (!c)) H1
theorem pe_one {op} {t : TE} (h : PE X a t) : PE X (.BoolOp op [a] pos) t := fun pins s σ H Q I hw => BoolOp_one (h pins s σ H Q I hw)
theorem pe_and (ha : PE X a ta) (hb : PE X (.BoolOp .And (b :: rest) pos) tb) : PE X (.BoolOp .And (a :: b :: rest) pos) (tAndV ta tb) := by
  intro pins s σ H Q I h
  refine BoolOp_and (thn (ha pins s σ H _ I h) fun v s1 hx9 => ?_)
  obtain ⟨x, H1, I1, r1, q1⟩ := hx9
  obtain ⟨c, rfl, q1⟩ := q1
  cases r1
  refine wpAny_truthy_bool ?_
  cases c with
  | true => exact hb pins s1 σ H1 Q I1 q1
  | false => exact ⟨.bl false, H1, I1, rfl, q1⟩
theorem pe_not (ha : PE X a ta) : PE X (.UnaryOp .Not a pos) (tNotV ta) := by
  intro pins s σ H Q I h
  refine UnaryOp_ (thn (ha pins s σ H _ I h) fun v s1 hx9 => ?_)
  obtain ⟨x, H1, I1, r1, q1⟩ := hx9
  obtain ⟨c, rfl, q1⟩ := q1
  cases r1
  exact not_of (wpAny_truthy_bool ⟨.bl (!c), H1, I1, rfl, q1⟩)
def tIf (t : TT) (ta tb : TE) : TE := fun σ H Q => t σ H fun c H1 => if c = true then ta σ H1 Q else tb σ H1 Q
theorem pe_ifExp {c : Expr} (hc : PT X c tA) (ha : PE X a ta) (hb : PE X b tb) : PE X (.IfExp c a b pos) (tIf tA ta tb) := by
  intro pins s σ H Q I h
  refine wpAny_IfExp (thn (hc pins s σ H _ I h) fun d s1 hx9 => ?_)
  obtain ⟨H1, I1, q1⟩ := hx9
  cases d with
  | true => exact ha pins s1 σ H1 Q I1 q1
  | false => exact hb pins s1 σ H1 Q I1 q1
end
end L2

namespace L2
open PySem PySem.Spec PyProof.Rows

def SqL (K : PySem.W.Frag) (H : Hp) (a : Addr) (xs : List V) : Prop :=
  Rd H a (.lst xs) ∨
    ∃ (o : Obj) (its : Array Value) (n : Nat), K.lookup a = some o ∧ o.cls = .type "list" ∧ o.dict = none ∧ o.data = .seq its n ∧ its.size ≤ sizeLine ∧ Vals xs its.toList
def SqT (K : PySem.W.Frag) (H : Hp) (a : Addr) (xs : List V) : Prop :=
  Rd H a (.tup xs) ∨
    ∃ (o : Obj) (its : Array Value) (n : Nat), K.lookup a = some o ∧ o.cls = .type "tuple" ∧ o.dict = none ∧ o.data = .seq its n ∧ its.size ≤ sizeLine ∧ Vals xs its.toList
def absV : Value → Option V
  | .none => some .non
  | .bool b => some (.bl b)
  | .int i _ => some (.int i)
  | .str x _ => some (.str x)
  | .bytes b _ => some (.byt b)
  | .float b _ => some (.flt b)
  | .ref a => some (.ref a)
  | .type n => some (.ty n)
  | _ => none
theorem RelV.abs {x : V} {u : Value} (r : RelV x u) : absV u = some x := by
  cases x with
  | non => cases r; rfl
  | bl _ => cases r; rfl
  | int _ => obtain ⟨t, rfl⟩ := r; rfl
  | str _ => obtain ⟨t, rfl⟩ := r; rfl
  | byt _ => obtain ⟨t, rfl⟩ := r; rfl
  | flt _ => obtain ⟨t, rfl⟩ := r; rfl
  | ref _ => cases r; rfl
  | ty _ => cases r; rfl
theorem RelV.inj {x y : V} {u : Value} (r : RelV x u) (q : RelV y u) : x = y := Option.some.inj (r.abs.symm.trans q.abs)
theorem Vals.inj : ∀ {xs ys : List V} {us : List Value}, Vals xs us → Vals ys us → xs = ys
  := by
  intro xs ys us h
  induction h generalizing ys with
  | nil => intro q; cases q; rfl
  | cons r t ih => intro q; cases q with | cons r' t' => rw [r.inj r', ih t']
section
variable {X : Cx} {pins : List (Addr × Obj)} {σ : St} {H : Hp} {s : Shared} {a : Addr} {xs ys : List V}
theorem SqL.of {K : PySem.W.Frag} (h : H a = some (.lst xs)) : SqL K H a xs := .inl (.inl h)
theorem SqT.of {K : PySem.W.Frag} (h : H a = some (.tup xs)) : SqT K H a xs := .inl (.inl h)
theorem Inv.list (I : Inv X pins σ H s) (h : SqL X.K H a xs) : ∃ its : List Value, Vals xs its ∧ PlainL s.heap a its.toArray ∧ xs.length ≤ sizeLine := by
  rcases h with h | ⟨o, its, n, hk, hc, hd, hs, hz, r⟩
  · obtain ⟨z, its, n, r, e⟩ := h.ok I.hok
    exact ⟨its, r, ⟨_, n, e, rfl, rfl, rfl⟩, z⟩
  · refine ⟨its.toList, r, ⟨o, n, I.kIn a o hk, hc, hd, by simpa using hs⟩, ?_⟩
    have e := r.length
    simp only [Array.length_toList] at e
    omega
theorem Inv.tuple (I : Inv X pins σ H s) (h : SqT X.K H a xs) : ∃ its : List Value, Vals xs its ∧ IsTup s.heap a its.toArray ∧ xs.length ≤ sizeLine := by
  rcases h with h | ⟨o, its, n, hk, hc, _, hs, hz, r⟩
  · obtain ⟨z, its, n, r, p⟩ := h.ok I.hok
    exact ⟨its, r, ⟨_, p, rfl, n, rfl⟩, z⟩
  · refine ⟨its.toList, r, ⟨o, I.kIn a o hk, hc, n, by simpa using hs⟩, ?_⟩
    have e := r.length
    simp only [Array.length_toList] at e
    omega
theorem Inv.list_inj (I : Inv X pins σ H s) (h : SqL X.K H a xs) (h' : SqL X.K H a ys) : xs = ys := by
  obtain ⟨its, r, ⟨o, n, e, _, _, d⟩, _⟩ := I.list h
  obtain ⟨its', r', ⟨o', n', e', _, _, d'⟩, _⟩ := I.list h'
  rw [e] at e'; cases e'
  rw [d] at d'
  injection d' with d1 _
  have : its = its' := by simpa using congrArg Array.toList d1
  subst this
  exact r.inj r'
theorem Inv.tuple_inj (I : Inv X pins σ H s) (h : SqT X.K H a xs) (h' : SqT X.K H a ys) : xs = ys := by
  obtain ⟨its, r, ⟨o, e, _, n, d⟩, _⟩ := I.tuple h
  obtain ⟨its', r', ⟨o', e', _, n', d'⟩, _⟩ := I.tuple h'
  rw [e] at e'; cases e'
  rw [d] at d'
  injection d' with d1 _
  have : its = its' := by simpa using congrArg Array.toList d1
  subst this
  exact r.inj r'
end

abbrev Cx.wish (X : Cx) (E : Value → Shared → Prop) : Cx := { X with xe := E }
abbrev Cx.nox (X : Cx) : Cx := X.wish fun _ _ => False
theorem Cx.Ok.wish {X : Cx} (ok : X.Ok) (E : Value → Shared → Prop) : (X.wish E).Ok :=
  ⟨ok.mod, ok.kind, ok.glob, ok.blt, ok.above, ok.inj, ok.has, ok.cab, ok.hd, ok.frames, ok.stk, ok.exf, ok.bs, ok.bsz, ok.noex, ok.exfs, ok.funs, ok.frf⟩
theorem Cx.Ok.unwish {X : Cx} {E : Value → Shared → Prop} (ok : (X.wish E).Ok) : X.Ok :=
  ⟨ok.mod, ok.kind, ok.glob, ok.blt, ok.above, ok.inj, ok.has, ok.cab, ok.hd, ok.frames, ok.stk, ok.exf, ok.bs, ok.bsz, ok.noex, ok.exfs, ok.funs, ok.frf⟩
section
variable {X : Cx} {pins : List (Addr × Obj)} {σ : St} {H : Hp} {s : Shared} {E : Value → Shared → Prop}
theorem Inv.wish (I : Inv X pins σ H s) (E : Value → Shared → Prop) : Inv (X.wish E) pins σ H s := ⟨I.ok.wish E, I.os, I.bare, I.base, I.loc, I.cell, I.free, I.freeC, I.pin, I.hok, I.len⟩
theorem Inv.unwish (I : Inv (X.wish E) pins σ H s) : Inv X pins σ H s := ⟨I.ok.unwish, I.os, I.bare, I.base, I.loc, I.cell, I.free, I.freeC, I.pin, I.hok, I.len⟩
theorem SP.unwish {D : Ends} {f : Flow} {s' : Shared} (h : SP (X.wish E) pins D f s') : SP X pins D f s' := by
  cases f with
  | next => obtain ⟨σ', H', I, q⟩ := h; exact ⟨σ', H', I.unwish, q⟩
  | brk => obtain ⟨σ', H', I, q⟩ := h; exact ⟨σ', H', I.unwish, q⟩
  | cont => obtain ⟨σ', H', I, q⟩ := h; exact ⟨σ', H', I.unwish, q⟩
  | ret u => obtain ⟨v, σ', H', I, r, q⟩ := h; exact ⟨v, σ', H', I.unwish, r, q⟩
theorem PE.nox {e : Expr} {t : TE} (h : PE X.nox e t) : PE X e t := fun pins s σ H Q I hw =>
  wpAny_mono (h pins s σ H Q (I.wish _) hw) (fun _ _ ⟨v, H', I', r, q⟩ => ⟨v, H', I'.unwish, r, q⟩) fun _ _ z => False.elim z
theorem PT.nox {e : Expr} {t : TT} (h : PT X.nox e t) : PT X e t := fun pins s σ H Q I hw =>
  wpAny_mono (h pins s σ H Q (I.wish _) hw) (fun _ _ ⟨H', I', q⟩ => ⟨H', I'.unwish, q⟩) fun _ _ z => False.elim z
theorem PSs.nox {st : List Stmt} {t : TS} (h : PSs X.nox st t) : PSs X st t := fun pins s σ H D I hw =>
  wpAny_mono (h pins s σ H D (I.wish _) hw) (fun _ _ q => q.unwish) fun _ _ z => False.elim z
end

section
variable {X : Cx} {st : Stmt} {rest : List Stmt} {t u : TS} {e : Expr} {te : TE} {pos : Pos}
def tNext : TS := fun D σ H => D.nx σ H
def tSeq (t u : TS) : TS := fun D σ H => t { D with nx := u D } σ H
theorem pss_nil : PSs X [] tNext := fun _ _ σ H _ I h => wpAny_execs_nil ⟨σ, H, I, h⟩
theorem pss_cons (h1 : PS X st t) (h2 : PSs X rest u) : PSs X (st :: rest) (tSeq t u) := by
  intro pins s σ H D I h
  refine wpAny_execs_cons (thn (h1 pins s σ H { D with nx := u D } I h) fun f s1 q => ?_)
  cases f with
  | next =>
    obtain ⟨σ', H', I', q⟩ := q
    exact h2 pins s1 σ' H' D I' q
  | ret v => exact q
  | brk => exact q
  | cont => exact q
theorem pss_one (h1 : PS X st t) : PSs X [st] t := by
  intro pins s σ H D I h
  refine wpAny_execs_cons (thn (h1 pins s σ H D I h) fun f s1 q => ?_)
  cases f with
  | next => exact wpAny_execs_nil q
  | ret v => exact q
  | brk => exact q
  | cont => exact q
def tBreak : TS := fun D σ H => D.bk σ H
theorem ps_break : PS X (.Break pos) tBreak := fun _ _ σ H _ I h => wpAny_Break ⟨σ, H, I, h⟩
theorem Inv.quiet {pins : List (Addr × Obj)} {σ : St} {H : Hp} {s : Shared} (I : Inv X pins σ H s) : interactive X.env = false := by simp [interactive, I.ok.kind]
def tDrop (te : TE) : TS := fun D σ H => te σ H fun _ H1 => D.nx σ H1
theorem ps_expr (he : PE X e te) (hs : swapsWith e none pos.line X.env = pure false := by rfl) : PS X (.Expr e pos) (tDrop te) := by
  intro pins s σ H D I h
  refine wpAny_Expr_any (thn (he pins s σ H _ I h) fun v s1 hx9 => ?_) I.quiet hs
  obtain ⟨x, H1, I1, r1, q1⟩ := hx9
  exact ⟨σ, H1, I1, q1⟩
def tRet (te : TE) : TS := fun D σ H => te σ H D.rt
theorem ps_ret (he : PE X e te) : PS X (.Return (some e) pos) (tRet te) := by
  intro pins s σ H D I h
  refine wpAny_Return_some (thn (he pins s σ H _ I h) fun v s1 hx9 => ?_)
  obtain ⟨x, H1, I1, r1, q1⟩ := hx9
  exact ⟨x, σ, H1, I1, r1, q1⟩
def tIfS (c : TT) (t u : TS) : TS := fun D σ H => c σ H fun b H1 => if b = true then t D σ H1 else u D σ H1
theorem ps_if {c : Expr} {a b : List Stmt} {tc : TT} (hc : PT X c tc) (ha : PSs X a t) (hb : PSs X b u) : PS X (.If c a b pos) (tIfS tc t u) := by
  intro pins s σ H D I h
  refine wpAny_If (thn (hc pins s σ H _ I h) fun d s1 hx9 => ?_)
  obtain ⟨H1, I1, q1⟩ := hx9
  cases d with
  | true => exact ha pins s1 σ H1 D I1 q1
  | false => exact hb pins s1 σ H1 D I1 q1
def tNever : TS := fun _ _ _ => False
theorem pss_never {sts : List Stmt} : PSs X sts tNever := fun _ _ _ _ _ _ h => h.elim
end

abbrev TG := V → St → Hp → (St → Hp → Prop) → Prop
abbrev TGs := List V → St → Hp → (St → Hp → Prop) → Prop
def PG (X : Cx) (target : Expr) (t : TG) : Prop :=
  ∀ (pins : List (Addr × Obj)) (s : Shared) (σ : St) (H : Hp) (v : V) (u : Value) (Q : St → Hp → Prop), Inv X pins σ H s → RelV v u → t v σ H Q →
    wpAny (model X.prog X.w) X.A (assign target X.env u) (fun _ s' => ∃ σ' H', Inv X pins σ' H' s' ∧ Q σ' H') X.xe s
def PGs (X : Cx) (ts : List Expr) (t : TGs) : Prop :=
  ∀ (pins : List (Addr × Obj)) (s : Shared) (σ : St) (H : Hp) (vs : List V) (us : List Value) (Q : St → Hp → Prop), Inv X pins σ H s → Vals vs us → t vs σ H Q →
    wpAny (model X.prog X.w) X.A (assignInOrder ((assignEach ts X.env).map (·.2)) us) (fun _ s' => ∃ σ' H', Inv X pins σ' H' s' ∧ Q σ' H') X.xe s
abbrev TSet := V → V → V → Hp → (Hp → Prop) → Prop
def PSet (X : Cx) (t : TSet) : Prop :=
  ∀ (pins : List (Addr × Obj)) (s : Shared) (σ : St) (H : Hp) (o i v : V) (ov iv u : Value) (Q : Hp → Prop), Inv X pins σ H s → RelV o ov → RelV i iv → RelV v u → t o i v H Q →
    wpAny (model X.prog X.w) X.A (setItem ov iv u) (fun _ s' => ∃ H', Inv X pins σ H' s' ∧ Q H') X.xe s
section
variable {X : Cx} {pos : Pos}
def gName (i : Nat) : TG := fun v σ H Q => Q (σ.set i (some v)) H
theorem pg_name {i : Nat} {x : Str} (hN : X.N.Nodup) (hi : X.N[i]? = some x) (hx : Loc X.env.scope x) (hf : X.fn x = true ∨ X.env.scope.names.lookup x = some .local := by first | exact .inl rfl | exact .inr rfl | assumption) : PG X (.Name x pos) (gName i) := by
  intro pins s σ H v u Q I r h
  exact wpAny_assign_Name (store_ok I hN hi hx r (fun s' I' => ⟨_, H, I', h⟩) hf)
def gNil : TGs := fun vs σ H Q => vs = [] ∧ Q σ H
def gCons (t : TG) (u : TGs) : TGs := fun vs σ H Q => ∃ v r, vs = v :: r ∧ t v σ H fun σ' H' => u r σ' H' Q
theorem pgs_nil : PGs X [] gNil := by
  intro pins s σ H vs us Q I r h
  obtain ⟨e, h⟩ := h
  subst e
  cases r
  exact assignInOrder_nil ⟨σ, H, I, h⟩
theorem pgs_cons {e : Expr} {es : List Expr} {t : TG} {u : TGs} (h1 : PG X e t) (h2 : PGs X es u)
    (hs : (assignEach (e :: es) X.env).map (·.2) = assign e X.env :: (assignEach es X.env).map (·.2) := by rfl) : PGs X (e :: es) (gCons t u) := by
  intro pins s σ H vs us Q I r h
  obtain ⟨v, vr, e1, h⟩ := h
  subst e1
  cases r with
  | cons r rr =>
    rw [hs]
    refine assignInOrder_cons (thn (h1 pins s σ H _ _ _ I r h) fun _ s1 hx9 => ?_)
    obtain ⟨σ1, H1, I1, q1⟩ := hx9
    exact h2 pins s1 σ1 H1 _ _ Q I1 rr q1
def gTup (K : PySem.W.Frag) (n : Nat) (t : TGs) : TG := fun v σ H Q => ∃ a xs, v = .ref a ∧ SqT K H a xs ∧ xs.length = n ∧ t xs σ H Q
theorem pg_tup {es : List Expr} {k : Nat} {t : TGs} {n : Nat} (hc : X.calm = true) (h : PGs X es t)
    (hn : (assignEach es X.env).length = n := by rfl) (hst : (assignEach es X.env).findIdx? (·.1) = none := by rfl) : PG X (.Tuple es k pos) (gTup X.K n t) := by
  intro pins s σ H v u Q I r hw
  obtain ⟨a, xs, e1, hq, hl, hw⟩ := hw
  subst e1
  cases r
  obtain ⟨its, rv, ht, hz⟩ := I.tuple hq
  refine assign_Tuple_tuple (I.ok.hd hc) ht (by simp [hn, ← hl, rv.length]) hst fun h' hx => ?_
  have I1 : Inv X pins σ H { s with heap := h' } := I.kept (t' := s.toks) fun b o e => hx b o (Nat.ne_of_lt (Heap.lt_size e)) e
  exact h pins _ σ H xs _ Q I1 (by simpa using rv) hw
def gSub (to ti : TE) (t : TSet) : TG := fun v σ H Q => to σ H fun o H1 => ti σ H1 fun i H2 => t o i v H2 fun H3 => Q σ H3
theorem pg_sub {o i : Expr} {to ti : TE} {t : TSet} (ho : PE X o to) (hi : PE X i ti) (hs : PSet X t)
    (ha : ∀ v, assign (.Subscript o i pos) X.env v = (do
      let ov ← holding [v] (eval o X.env)
      let iv ← holding [v, ov] (eval i X.env)
      standAt pos
      holding [v, ov, iv] (setItem ov iv v)
      release [v, ov, iv] []) := by intro _; rfl) : PG X (.Subscript o i pos) (gSub to ti t) := by
  intro pins s σ H v u Q I r h
  rw [ha]
  refine wpAny_bind (wpAny_holding (thn (ho pins s σ H _ I h) fun ov s1 hx9 => ?_))
  obtain ⟨x, H1, I1, r1, q1⟩ := hx9
  refine wpAny_bind (wpAny_holding (thn (hi pins s1 σ H1 _ I1 q1) fun iv s2 hx9 => ?_))
  obtain ⟨y, H2, I2, r2, q2⟩ := hx9
  refine wpAny_bind (wpAny_standAt (wpAny_bind (wpAny_holding (thn (hs pins s2 σ H2 x y v ov iv u _ I2 r1 r2 r q2) fun _ s3 hx9 => ?_))))
  obtain ⟨H3, I3, q3⟩ := hx9
  exact wpAny_release ⟨σ, H3, I3, q3⟩
def tAsg (te : TE) (g : TG) : TS := fun D σ H => te σ H fun x H1 => g x σ H1 D.nx
theorem ps_asg {tg e : Expr} {te : TE} {g : TG} (he : PE X e te) (hg : PG X tg g) (hs : swapsWithSole [tg] e pos.line X.env = pure false := by rfl) (hw : swappedStores [tg] e X.env = pure none := by rfl)
    (h1 : (assignEach [tg] X.env).map (·.2) = [assign tg X.env] := by rfl) : PS X (.Assign [tg] e pos) (tAsg te g) := by
  intro pins s σ H D I h
  refine wpAny_Assign_stores (thn (he pins s σ H _ I h) fun v s1 hx9 => ?_) hs hw
  obtain ⟨x, H1, I1, r1, q1⟩ := hx9
  rw [h1]
  exact thn (hg pins s1 σ H1 x v _ I1 r1 q1) fun _ s2 q => q
theorem ps_set {i : Nat} {x : Str} {e : Expr} {te : TE} {pos' : Pos} (hN : X.N.Nodup) (hi : X.N[i]? = some x) (hx : Loc X.env.scope x) (he : PE X e te) (hs : swapsWith e (some (.Name x pos')) pos.line X.env = pure false := by rfl) (hf : X.fn x = true ∨ X.env.scope.names.lookup x = some .local := by first | exact .inl rfl | exact .inr rfl | assumption) :
    PS X (.Assign [.Name x pos'] e pos) (tAsg te (gName i)) := by
  intro pins s σ H D I h
  refine wpAny_Assign_Name (thn (he pins s σ H _ I h) fun v s1 hx9 => ?_) hs
  obtain ⟨y, H1, I1, r1, q1⟩ := hx9
  exact store_ok I1 hN hi hx r1 (fun s2 I2 => ⟨_, H1, I2, q1⟩) hf
def tPar (i j : Nat) (ta : TA) : TS := fun D σ H => ta σ H fun vs H1 => ∃ v w, vs = [v, w] ∧ D.nx ((σ.set i (some v)).set j (some w)) H1
theorem ps_par {i j : Nat} {x y : Str} {a b : Expr} {ta : TA} {px py pt : Pos} {kt k2 pt2} (hc : X.calm = true) (hN : X.N.Nodup) (hi : X.N[i]? = some x) (hj : X.N[j]? = some y) (hij : i ≠ j)
    (hx : X.env.scope.names.lookup x = some .local) (hy : X.env.scope.names.lookup y = some .local) (ha : PA X [a, b] ta)
    (hw : swappedStores [.Tuple [.Name x px, .Name y py] kt pt] (.Tuple [a, b] k2 pt2) X.env = pure (some [x, y]))
    (hs : swapsWithSole [.Tuple [.Name x px, .Name y py] kt pt] (.Tuple [a, b] k2 pt2) pos.line X.env = pure false := by rfl) :
    PS X (.Assign [.Tuple [.Name x px, .Name y py] kt pt] (.Tuple [a, b] k2 pt2) pos) (tPar i j ta) := by
  intro pins s σ H D I h
  rw [exec_Assign_arm]
  refine wpAny_bind (wpAny_standAt ?_)
  rw [hs]
  refine wpAny_bind (wpAny_pure ?_)
  rw [if_neg (by decide)]
  refine wpAny_bind (Tuple_ (thn (ha _ pins s σ H _ I h) fun us s1 hx9 => ?_))
  obtain ⟨vs, H1, I1, r1, q1⟩ := hx9
  obtain ⟨v, w, e1, q1⟩ := q1
  subst e1
  obtain ⟨u1, u2, rfl, rv, rw'⟩ : ∃ u1 u2, us = [u1, u2] ∧ RelV v u1 ∧ RelV w u2 := by
    cases r1 with
    | cons p q =>
      cases q with
      | cons p' q' =>
        cases q'
        exact ⟨_, _, rfl, p, p'⟩
  refine wpAny_newObj_type ?_ (by show 2 ≤ sizeLine; decide)
  have I2 : Inv X pins σ H1 { s1 with heap := s1.heap.push { cls := .type "tuple", data := .seq [u1, u2].toArray } } := I1.kept (t' := s1.toks) fun b o e => Heap.get?_push_of_some _ e
  rw [hw]
  refine wpAny_bind (wpAny_pure ?_)
  show wpAny (model X.prog X.w) X.A (do rule "assign.swapped-stores"; let items ← unpackItems (.ref s1.heap.objs.size) 2 none; assignInOrder [fun v => bindName X.env y v, fun v => bindName X.env x v] items.reverse; pure Flow.next) _ _ _
  refine wpAny_bind (wpAny_rule (wpAny_bind (unpackItems_tuple (items := #[u1, u2]) (I.ok.hd hc) (IsTup.new s1.heap _) fun h' hx' => ?_)))
  have I3 := I2.kept (h' := h') (t' := s1.toks) fun b o e => hx' b o (Nat.ne_of_lt (Heap.lt_size e)) e
  show wpAny _ _ (assignInOrder [fun v => bindName X.env y v, fun v => bindName X.env x v] [u2, u1] >>= fun _ => pure Flow.next) _ _ _
  refine wpAny_bind (assignInOrder_cons (wpAny_bindName (store_ok I3 hN hj (.inl hy) rw' (fun s2 I4 => ?_) (.inr hy))))
  refine assignInOrder_cons (wpAny_bindName (store_ok I4 hN hi (.inl hx) rv (fun s3 I5 => assignInOrder_nil (wpAny_pure ?_)) (.inr hx)))
  rw [List.set_comm _ _ (Ne.symm hij)] at I5
  exact ⟨_, H1, I5, q1⟩
end

section
variable {X : Cx} {pos : Pos}
def tWhile (c : TT) (tb : TS) : TS := fun D σ H => ∃ W : Nat → St → Hp → Prop, (∃ m, W m σ H) ∧ ∀ m σ H, W m σ H →
  c σ H fun b H1 => if b = true then ∃ N : St → Hp → Prop, (∀ σ' H', N σ' H' → ∃ m', m' < m ∧ W m' σ' H') ∧ tb { D with nx := N, ct := N, bk := D.nx } σ H1 else D.nx σ H1
theorem ps_while {c : Expr} {body : List Stmt} {tc : TT} {tb : TS} (hp : PassesOwn (model X.prog X.w) X.A X.env X.xe) (hc : PT X c tc) (hb : PSs X body tb) : PS X (.While c body [] pos) (tWhile tc tb) := by
  intro pins s σ H D I h
  obtain ⟨W, ⟨m0, w0⟩, turn⟩ := h
  refine wpAny_While (codeAny_whileLoop (fun n s' => ∃ σ' H', Inv X pins σ' H' s' ∧ W n σ' H') ?_ m0 ⟨σ, H, I, w0⟩)
  rintro n s1 ⟨σ1, H1, I1, w1⟩
  refine wpAny_passesOwn hp (thn (hc pins s1 σ1 H1 _ I1 (turn n σ1 H1 w1)) fun b s2 hx9 => ?_)
  obtain ⟨H2, I2, q2⟩ := hx9
  cases b with
  | true =>
    obtain ⟨N, hN, q2⟩ := q2
    rw [if_pos rfl]
    refine wpAny_passesOwn hp (thn (hb pins s2 σ1 H2 _ I2 q2) fun f s3 q3 => ?_)
    cases f with
    | next =>
      obtain ⟨σ3, H3, I3, n3⟩ := q3
      obtain ⟨m', hm, w3⟩ := hN σ3 H3 n3
      exact ⟨m', hm, σ3, H3, I3, w3⟩
    | cont =>
      obtain ⟨σ3, H3, I3, n3⟩ := q3
      obtain ⟨m', hm, w3⟩ := hN σ3 H3 n3
      exact ⟨m', hm, σ3, H3, I3, w3⟩
    | brk => exact q3
    | ret v => exact q3
  | false =>
    rw [if_neg Bool.false_ne_true]
    exact wpAny_execs_nil ⟨σ1, H2, I2, q2⟩
end

structure It where
  go : Nat → Hp → Prop
  yld : Nat → Hp → V → Hp → Prop
  stop : Nat → Hp → Prop
def FpOk (X : Cx) (pins : List (Addr × Obj)) (H : Hp) (b : Addr) : Prop :=
  H b = none ∧ b ≠ X.env.locals ∧ b ∉ X.fs ∧ (b ∈ X.ex ∨ X.s₀.heap.objs.size ≤ b) ∧ (∀ x c, X.env.cells.lookup x = some c → c ≠ b) ∧ ∀ p ∈ X.pn ++ pins, p.1 ≠ b
theorem Inv.fpOk {X : Cx} {pins : List (Addr × Obj)} {σ : St} {H H' : Hp} {s : Shared} {b : Addr} (I : Inv X pins σ H s) (hb : s.heap.objs.size ≤ b) (hn : H' b = none) : FpOk X pins H' b := by
  refine ⟨hn, Nat.ne_of_gt (Nat.lt_of_lt_of_le I.lt hb), I.nofs hb, .inr (Nat.le_trans I.sz hb), fun x c e z => ?_, fun p hp z => ?_⟩
  · obtain ⟨v, q⟩ := I.cell x c e
    exact absurd (Nat.lt_of_lt_of_le q.lt (by rw [z]; exact hb)) (Nat.lt_irrefl _)
  · exact absurd (Nat.lt_of_lt_of_le (Heap.lt_size (I.pin p hp).1) (by rw [z]; exact hb)) (Nat.lt_irrefl _)
structure Turn (P : Program) (w : World) (K : PySem.W.Frag) (tg : Expr) (J : It) (fp : List Addr) (it : Addr) (tn : Nat → Heap → Prop) : Prop where
  mem : it ∈ fp
  obj : ∀ i h, tn i h → ∀ b ∈ fp, ∃ o, h.get? b = some o ∧ ∀ v, o.data ≠ .cell v
  keep : ∀ i h h', tn i h → (∀ b ∈ fp, ∀ o, h.get? b = some o → h'.get? b = some o) → tn i h'
  item : ∀ (X : Cx), X.prog = P → X.w = w → X.K = K → X.calm = true → ∀ (i : Nat) (pins : List (Addr × Obj)) (s : Shared) (σ : St) (H : Hp) (E : Value → Shared → Prop), Inv X pins σ H s → (∀ b ∈ fp, FpOk X pins H b) → tn i s.heap → J.go i H →
    wpAny (model P w) X.A (pyNext (.ref it)) (fun r s1 => ∃ u, r = some u ∧
      wpAny (model P w) X.A (letOwnedTupleGo tg (.ref it) u) (fun _ s2 => ∃ x H', Inv X pins σ H' s2 ∧ RelV x u ∧ J.yld i H x H' ∧ tn (i + 1) s2.heap ∧ ∀ b ∈ fp, H' b = none) E s1) E s
  done : ∀ (X : Cx), X.prog = P → X.w = w → X.K = K → X.calm = true → ∀ (i : Nat) (pins : List (Addr × Obj)) (s : Shared) (σ : St) (H : Hp) (E : Value → Shared → Prop), Inv X pins σ H s → (∀ b ∈ fp, FpOk X pins H b) → tn i s.heap → J.stop i H →
    wpAny (model P w) X.A (pyNext (.ref it)) (fun r s1 => r = none ∧ Inv X pins σ H s1) E s
  self : ∀ (A : Around) (i : Nat) (s : Shared) (Q : Value → Shared → Prop) (E : Value → Shared → Prop), tn i s.heap → Q (.ref it) s → wpAny (model P w) A (pyIter (.ref it)) Q E s
abbrev TI := St → Hp → (It → Hp → Prop) → Prop
def PIE (X : Cx) (pins : List (Addr × Obj)) (σ : St) (tg : Expr) (R : It → Hp → Prop) (itv : Value) (s2 : Shared) : Prop :=
  ∃ (it : Addr) (fp : List Addr) (tn : Nat → Heap → Prop) (J : It) (H' : Hp), itv = .ref it ∧ Inv X pins σ H' s2 ∧ Turn X.prog X.w X.K tg J fp it tn ∧ tn 0 s2.heap ∧ (∀ b ∈ fp, FpOk X pins H' b) ∧ R J H'
def PI (X : Cx) (tg iter : Expr) (wi : TI) : Prop :=
  ∀ (pins : List (Addr × Obj)) (s : Shared) (σ : St) (H : Hp) (R : It → Hp → Prop), Inv X pins σ H s → wi σ H R →
    wpAny (model X.prog X.w) X.A (eval iter X.env) (fun v s1 => wpAny (model X.prog X.w) X.A (pyIter v) (PIE X pins σ tg R) X.xe s1) X.xe s

theorem go_of {M : Model} {A : Around} {E : Value → Shared → Prop} {s : Shared} {tg : Expr} {it : Addr} {u : Value} {o : Obj} {n : String} {vs : Array Value} {Q : Unit → Shared → Prop} (ho : s.heap.get? it = some o) (hc : o.cls = .type n) (hd : o.data = .fields vs)
    (hn : ["enumerate", "zip", "dict_itemiterator", "dict_reverseitemiterator", "odict_iterator", "itertools.zip_longest", "itertools.pairwise"].contains n = false) (hQ : Q () s) : wpAny M A (letOwnedTupleGo tg (.ref it) u) Q E s := by
  unfold letOwnedTupleGo
  cases tg <;> first
    | exact wpAny_pure hQ
    | (cases u <;> first
        | exact wpAny_pure hQ
        | (refine wpAny_bind (wpAny_load ho ?_)
           rw [hc, hd]
           show wpAny M A (if (["enumerate", "zip", "dict_itemiterator", "dict_reverseitemiterator", "odict_iterator", "itertools.zip_longest", "itertools.pairwise"].contains n && vs[0]? == some (rawInt _)) = true then _ else _) Q E s
           rw [if_neg (by intro h; rw [hn, Bool.false_and] at h; cases h)]
           exact wpAny_pure hQ))

def Itl (K : PySem.W.Frag) (a : Addr) : It :=
  ⟨fun i H => ∃ xs x, SqL K H a xs ∧ xs[i]? = some x, fun i H x H' => H' = H ∧ ∀ xs, SqL K H a xs → xs[i]? = some x, fun i H => ∃ xs, SqL K H a xs ∧ xs.length ≤ i⟩
def Itt (K : PySem.W.Frag) (a : Addr) : It :=
  ⟨fun i H => ∃ xs x, SqT K H a xs ∧ xs[i]? = some x, fun i H x H' => H' = H ∧ ∀ xs, SqT K H a xs → xs[i]? = some x, fun i H => ∃ xs, SqT K H a xs ∧ xs.length ≤ i⟩
def Itr (lo : Int) (n : Nat) : It := ⟨fun i _ => i < n, fun i H x H' => H' = H ∧ x = .int (lo + i), fun i _ => n ≤ i⟩
theorem turn_list {P : Program} {w : World} {K : PySem.W.Frag} {tg : Expr} (a it : Addr) : Turn P w K tg (Itl K a) [it] it (fun i h => h.IsListIter it a i) where
  mem := by simp
  obj := fun i h st b hb => by
    have e : b = it := by simpa using hb
    subst e
    obtain ⟨o, e, c, d⟩ := st
    exact ⟨o, e, fun v z => by rw [d] at z; cases z⟩
  keep := fun i h h' st k => st.at fun o e => k it (by simp) o e
  item := by
    intro X hP hw hK hc i pins s σ H E I hf st hg
    subst hP hw hK
    obtain ⟨xs, x, hq, hx⟩ := hg
    obtain ⟨its, rv, p, hz⟩ := I.list hq
    obtain ⟨u, hu, ru⟩ := rv.get hx
    obtain ⟨f0, f1, f2, f3, f4, f5⟩ := hf it (by simp)
    refine wpAny_pyNext_list_item st p.isList (x := u) (by simpa using hu) fun h' st' sb => ?_
    have I1 : Inv X pins σ H { s with heap := h' } := I.turned (t' := s.toks) (fun b o hb e => (sb.2 b hb).trans e) f0 f1 f3 f4 f5
    obtain ⟨o, e, c, d⟩ := id st'
    exact ⟨u, rfl, go_of (s := { s with heap := h' }) e c d (by decide) ⟨x, H, I1, ru, ⟨rfl, fun ys hy => by rw [I.list_inj hy hq]; exact hx⟩, st', fun b hb => (hf b hb).1⟩⟩
  done := by
    intro X hP hw hK hc i pins s σ H E I hf st hg
    subst hP hw hK
    obtain ⟨xs, hq, hx⟩ := hg
    obtain ⟨its, rv, p, hz⟩ := I.list hq
    obtain ⟨f0, f1, f2, f3, f4, f5⟩ := hf it (by simp)
    have hl := rv.length
    exact wpAny_pyNext_list_end (I.ok.hd hc) st p.isList (by simp; omega) fun h' eb => ⟨rfl, I.turned (t' := s.toks) (fun b o hb e => eb b o hb e) f0 f1 f3 f4 f5⟩
  self := fun _ _ _ _ _ st h => wpAny_pyIter_listiter st h
theorem turn_tuple {P : Program} {w : World} {K : PySem.W.Frag} {tg : Expr} (a it : Addr) : Turn P w K tg (Itt K a) [it] it (fun i h => h.IsTupleIter it a i) where
  mem := by simp
  obj := fun i h st b hb => by
    have e : b = it := by simpa using hb
    subst e
    obtain ⟨o, e, c, d⟩ := st
    exact ⟨o, e, fun v z => by rw [d] at z; cases z⟩
  keep := fun i h h' st k => st.at fun o e => k it (by simp) o e
  item := by
    intro X hP hw hK hc i pins s σ H E I hf st hg
    subst hP hw hK
    obtain ⟨xs, x, hq, hx⟩ := hg
    obtain ⟨its, rv, p, hz⟩ := I.tuple hq
    obtain ⟨u, hu, ru⟩ := rv.get hx
    obtain ⟨f0, f1, f2, f3, f4, f5⟩ := hf it (by simp)
    refine wpAny_pyNext_tuple_item st (show s.heap.IsTuple a its.toArray from p) (x := u) (by simpa using hu) fun h' st' sb => ?_
    have I1 : Inv X pins σ H { s with heap := h' } := I.turned (t' := s.toks) (fun b o hb e => (sb.2 b hb).trans e) f0 f1 f3 f4 f5
    obtain ⟨o, e, c, d⟩ := id st'
    exact ⟨u, rfl, go_of (s := { s with heap := h' }) e c d (by decide) ⟨x, H, I1, ru, ⟨rfl, fun ys hy => by rw [I.tuple_inj hy hq]; exact hx⟩, st', fun b hb => (hf b hb).1⟩⟩
  done := by
    intro X hP hw hK hc i pins s σ H E I hf st hg
    subst hP hw hK
    obtain ⟨xs, hq, hx⟩ := hg
    obtain ⟨its, rv, p, hz⟩ := I.tuple hq
    obtain ⟨f0, f1, f2, f3, f4, f5⟩ := hf it (by simp)
    have hl := rv.length
    exact wpAny_pyNext_tuple_end (I.ok.hd hc) st (show s.heap.IsTuple a its.toArray from p) (by simp; omega) fun h' eb => ⟨rfl, I.turned (t' := s.toks) (fun b o hb e => eb b o hb e) f0 f1 f3 f4 f5⟩
  self := fun _ _ _ _ _ st h => wpAny_pyIter_tupleiter st h
theorem turn_range {P : Program} {w : World} {K : PySem.W.Frag} {tg : Expr} (it : Addr) (lo : Int) (n : Nat) : Turn P w K tg (Itr lo n) [it] it (fun i h => IsRangeIter h it (lo + (i : Nat) * 1) ((n : Int) - (i : Nat)) 1) where
  mem := by simp
  obj := fun i h st b hb => by
    have e : b = it := by simpa using hb
    subst e
    exact ⟨_, st, fun v z => by
      have z' : Data.fields _ = Data.cell v := z
      cases z'⟩
  keep := fun i h h' st k => k it (by simp) _ st
  item := by
    intro X hP hw hK hc i pins s σ H E I hf st hg
    subst hP hw hK
    obtain ⟨f0, f1, f2, f3, f4, f5⟩ := hf it (by simp)
    have W := Walks.range (prog := X.prog) (w := X.w) (I.ok.hd hc) it lo 1 n
    refine W.item i s _ _ hg st fun v h' tk hv st' kk => ?_
    obtain ⟨t, rfl⟩ := hv
    have I1 : Inv X pins σ H { s with heap := h', toks := tk } := I.turned (fun b o hb e => kk b o (by simpa using hb) e) f0 f1 f3 f4 f5
    refine ⟨_, rfl, go_of (s := { s with heap := h', toks := tk }) (n := "range_iterator") st' rfl rfl (by decide) ⟨.int (lo + i), H, I1, ⟨t, ?_⟩, ⟨rfl, rfl⟩, st', fun b hb => (hf b hb).1⟩⟩
    rw [Int.mul_one]
  done := by
    intro X hP hw hK hc i pins s σ H E I hf st hg
    subst hP hw hK
    obtain ⟨f0, f1, f2, f3, f4, f5⟩ := hf it (by simp)
    exact wpAny_pyNext_range_end (I.ok.hd hc) st (by have : n ≤ i := hg; omega) fun h' eb => ⟨rfl, I.turned (t' := s.toks) (fun b o hb e => eb b o hb e) f0 f1 f3 f4 f5⟩
  self := fun _ _ _ _ _ st h => wpAny_pyIter_rangeiter st h
end L2

namespace L2
open PySem PySem.Spec PyProof.Rows
section
variable {X : Cx} {tg : Expr}
def iList (K : PySem.W.Frag) (tl : TE) : TI := fun σ H R => tl σ H fun x H1 => ∃ a, x = .ref a ∧ (∃ xs, SqL K H1 a xs) ∧ R (Itl K a) H1
def iTup (K : PySem.W.Frag) (tl : TE) : TI := fun σ H R => tl σ H fun x H1 => ∃ a, x = .ref a ∧ (∃ xs, SqT K H1 a xs) ∧ R (Itt K a) H1
theorem pi_list {l : Expr} {tl : TE} (hl : PE X l tl) : PI X tg l (iList X.K tl) := by
  intro pins s σ H R I h
  refine thn (hl pins s σ H _ I h) fun v s1 hx9 => ?_
  obtain ⟨x, H1, I1, r1, q1⟩ := hx9
  obtain ⟨a, e, ⟨xs, hq⟩, q⟩ := q1
  subst e
  cases r1
  obtain ⟨its, rv, p, hz⟩ := I1.list hq
  refine wpAny_pyIter_list p.isList ?_
  refine ⟨s1.heap.objs.size, [s1.heap.objs.size], _, _, H1, rfl, I1.kept (t' := s1.toks) fun b o e => Heap.get?_push_of_some _ e, turn_list a _, ⟨_, Heap.get?_push_size _ rfl, rfl, rfl⟩, fun b hb => ?_, q⟩
  have e : b = s1.heap.objs.size := by simpa using hb
  subst e
  exact I1.fpOk (Nat.le_refl _) (I1.hok.fresh (Nat.le_refl _))
theorem pi_tup {l : Expr} {tl : TE} (hl : PE X l tl) : PI X tg l (iTup X.K tl) := by
  intro pins s σ H R I h
  refine thn (hl pins s σ H _ I h) fun v s1 hx9 => ?_
  obtain ⟨x, H1, I1, r1, q1⟩ := hx9
  obtain ⟨a, e, ⟨xs, hq⟩, q⟩ := q1
  subst e
  cases r1
  obtain ⟨its, rv, p, hz⟩ := I1.tuple hq
  refine wpAny_pyIter_tuple (show s1.heap.IsTuple a its.toArray from p) ?_
  refine ⟨s1.heap.objs.size, [s1.heap.objs.size], _, _, H1, rfl, I1.kept (t' := s1.toks) fun b o e => Heap.get?_push_of_some _ e, turn_tuple a _, ⟨_, Heap.get?_push_size _ rfl, rfl, rfl⟩, fun b hb => ?_, q⟩
  have e : b = s1.heap.objs.size := by simpa using hb
  subst e
  exact I1.fpOk (Nat.le_refl _) (I1.hok.fresh (Nat.le_refl _))
theorem range_it {pins : List (Addr × Obj)} {σ : St} {H : Hp} {s : Shared} {R : It → Hp → Prop} {E : Value → Shared → Prop} {lo hi : Int} {t u v : Tok} {tk : Nat} (I : Inv X pins σ H s) (h1 : -(2 ^ 62) ≤ lo) (h2 : lo < 2 ^ 62) (h3 : -(2 ^ 62) ≤ hi) (h4 : hi < 2 ^ 62)
    (q : R (Itr lo (hi - lo).toNat) H) : wpAny (model X.prog X.w) X.A (pyIter (.ref s.heap.objs.size)) (PIE X pins σ tg R) E { s with heap := s.heap.push { cls := .type "range", data := .fields #[.int lo t, .int hi u, .int 1 v] }, toks := tk } := by
  refine wpAny_pyIter_range (IsRange.new ..) (small_one h1 h2 h3 h4) ?_
  have I1 : Inv X pins σ H { s with heap := s.heap.push { cls := .type "range", data := .fields #[.int lo t, .int hi u, .int 1 v] }, toks := tk } := I.kept fun b o e => Heap.get?_push_of_some _ e
  refine ⟨(s.heap.push { cls := .type "range", data := .fields #[.int lo t, .int hi u, .int 1 v] }).objs.size, [(s.heap.push { cls := .type "range", data := .fields #[.int lo t, .int hi u, .int 1 v] }).objs.size], _, _, H, rfl,
    I1.kept (t' := tk) fun b o e => Heap.get?_push_of_some _ e, turn_range _ lo (hi - lo).toNat, ?_, fun b hb => ?_, q⟩
  · have e1 : lo + ((0 : Nat) : Int) * 1 = lo := by simp
    have e2 : (((hi - lo).toNat : Nat) : Int) - ((0 : Nat) : Int) = Builtin.Range.rangeSize lo hi 1 := by rw [rangeSize_one]; split <;> omega
    show IsRangeIter _ _ (lo + ((0 : Nat) : Int) * 1) ((((hi - lo).toNat : Nat) : Int) - ((0 : Nat) : Int)) 1
    rw [e1, e2]
    exact Heap.get?_push_size _ rfl
  · have e : b = (s.heap.push { cls := .type "range", data := .fields #[.int lo t, .int hi u, .int 1 v] }).objs.size := by simpa using hb
    subst e
    exact I1.fpOk (Nat.le_refl _) (I1.hok.fresh (Nat.le_refl _))
def iRng1 (ta : TA) : TI := fun σ H R => ta σ H fun vs H1 => ∃ j : Int, vs = [.int j] ∧ -(2 ^ 62) ≤ j ∧ j < 2 ^ 62 ∧ R (Itr 0 j.toNat) H1
theorem pi_range1 {a : Expr} {ta : TA} {p pos : Pos} (hg : Gl X "range") (hm : X.mg "range" = none) (ha : PA X [a] ta) (hs : starEach [a] X.env = [(false, eval a X.env)] := by rfl) : PI X tg (.Call (.Name "range" p) [a] [] pos) (iRng1 ta) := by
  intro pins s σ H R I h
  refine Call_ (ld_blt I hg hm boot_range (PyProof.Rows.callWith_type1 (thn (ha pos pins s σ H _ I h) fun us s1 hx9 => ?_) hs rfl))
  obtain ⟨vs, H1, I1, r1, q1⟩ := hx9
  obtain ⟨j, e, q1, q2, q⟩ := q1
  subst e
  cases r1 with
  | cons r rr =>
    cases rr
    obtain ⟨t, rfl⟩ := r
    exact call_range_1 (range_it I1 (by omega) (by omega) q1 q2 (by simpa using q))
def tFor (wi : TI) (g : TG) (tb : TS) : TS := fun D σ H => wi σ H fun J H1 => ∃ W : Nat → Nat → St → Hp → Prop, (∃ m, W 0 m σ H1) ∧ ∀ i m σ H, W i m σ H →
  (J.stop i H ∧ D.nx σ H) ∨ (J.go i H ∧ ∃ N : St → Hp → Prop, (∀ σ' H', N σ' H' → ∃ m', m' < m ∧ W (i + 1) m' σ' H') ∧ ∀ x H', J.yld i H x H' → g x σ H' fun σ2 H2 => tb { D with nx := N, ct := N, bk := D.nx } σ2 H2)
def pinsAt (fp : List Addr) (h : Heap) : List (Addr × Obj) := fp.filterMap fun b => (h.get? b).map fun o => (b, o)
theorem mem_pinsAt {fp : List Addr} {h : Heap} {b : Addr} {o : Obj} (hb : b ∈ fp) (e : h.get? b = some o) : (b, o) ∈ pinsAt fp h := List.mem_filterMap.mpr ⟨b, hb, by rw [e]; rfl⟩
theorem of_pinsAt {fp : List Addr} {h : Heap} {p : Addr × Obj} (hp : p ∈ pinsAt fp h) : p.1 ∈ fp ∧ h.get? p.1 = some p.2 := by
  obtain ⟨b, hb, e⟩ := List.mem_filterMap.mp hp
  cases q : h.get? b with
  | none => rw [q] at e; cases e
  | some o =>
    rw [q] at e
    have e' : (b, o) = p := Option.some.inj e
    subst e'
    exact ⟨hb, q⟩
theorem Inv.pinned {pins : List (Addr × Obj)} {σ : St} {H : Hp} {s : Shared} {fp : List Addr} (I : Inv X pins σ H s) (hf : ∀ b ∈ fp, FpOk X pins H b) (ho : ∀ b ∈ fp, ∃ o, s.heap.get? b = some o ∧ ∀ v, o.data ≠ .cell v) : Inv X (pins ++ pinsAt fp s.heap) σ H s :=
  I.pins_of fun p hp => (List.mem_append.mp hp).elim (fun z => I.pin p (List.mem_append_right _ z)) fun z => by
    obtain ⟨hb, e⟩ := of_pinsAt z
    obtain ⟨f0, f1, f2, _⟩ := hf p.1 hb
    obtain ⟨o, e', d⟩ := ho p.1 hb
    rw [e] at e'; cases e'
    exact ⟨e, f0, f1, f2, d⟩
theorem Inv.unpinned {pins pl : List (Addr × Obj)} {σ : St} {H : Hp} {s : Shared} (I : Inv X (pins ++ pl) σ H s) : Inv X pins σ H s := I.pins_of fun p hp => I.pin p (List.mem_append_right _ (List.mem_append_left _ hp))
theorem ps_for {iter : Expr} {body : List Stmt} {wi : TI} {g : TG} {tb : TS} {pos : Pos} (hp : PassesOwn (model X.prog X.w) X.A X.env X.xe) (hc : X.calm = true) (hi : PI X tg iter wi) (hg : PG X tg g) (hb : PSs X body tb)
    (hs : ∀ x, foldedSetIterable iter X.env x = pure x := by intro _; rfl) : PS X (.For tg iter body [] pos) (tFor wi g tb) := by
  intro pins s σ H D I h
  refine wpAny_For (thn (hi pins s σ H _ I h) fun v s1 h1 => thn h1 fun itv s2 h2 => ?_) hs
  obtain ⟨it, fp, tn, J, H2, e, I2, T, st2, f2, W, ⟨m0, w0⟩, turn⟩ := h2
  subst e
  -- what stays true of the iterator's objects through the loop
  have stat : ∀ {H' : Hp}, (∀ b ∈ fp, H' b = none) → ∀ b ∈ fp, FpOk X pins H' b := fun hn b hb => ⟨hn b hb, (f2 b hb).2⟩
  refine codeAny_forLoop_any (fun n s' => ∃ i σ' H', Inv X pins σ' H' s' ∧ tn i s'.heap ∧ (∀ b ∈ fp, H' b = none) ∧ W i n σ' H') ?_ m0 ⟨0, σ, H2, I2, st2, fun b hb => (f2 b hb).1, w0⟩
  rintro n s3 ⟨i, σ3, H3, I3, st3, fr3, w3⟩
  rcases turn i n σ3 H3 w3 with ⟨stop, qn⟩ | ⟨go, N, hN, step⟩
  · refine wpAny_passesOwn hp (thn (T.done X rfl rfl rfl hc i pins s3 σ3 H3 X.xe I3 (stat fr3) st3 stop) fun r s4 hx9 => ?_)
    obtain ⟨hr, I4⟩ := hx9
    subst hr
    exact wpAny_execs_nil ⟨σ3, H3, I4, qn⟩
  · refine wpAny_passesOwn hp (thn (T.item X rfl rfl rfl hc i pins s3 σ3 H3 X.xe I3 (stat fr3) st3 go) fun r s4 hx9 => ?_)
    obtain ⟨u, hr, h4⟩ := hx9
    subst hr
    refine wpAny_passesOwn hp (thn h4 fun _ s5 hx9 => ?_)
    obtain ⟨x, H5, I5, r5, y5, st5, fr5⟩ := hx9
    have I5' := I5.pinned (stat fr5) (T.obj _ _ st5)
    refine wpAny_passesOwn hp (thn (hg _ s5 σ3 H5 x u _ I5' r5 (step x H5 y5)) fun _ s6 hx9 => ?_)
    obtain ⟨σ6, H6, I6, q6⟩ := hx9
    refine wpAny_passesOwn hp (thn (hb _ s6 σ6 H6 _ I6 q6) fun f s7 q7 => ?_)
    have again : ∀ {σ7 : St} {H7 : Hp}, Inv X (pins ++ pinsAt fp s5.heap) σ7 H7 s7 → N σ7 H7 → ∃ m, m < n ∧ ∃ i σ' H', Inv X pins σ' H' s7 ∧ tn i s7.heap ∧ (∀ b ∈ fp, H' b = none) ∧ W i m σ' H' := fun {σ7 H7} I7 n7 => by
      obtain ⟨m', hm, w7⟩ := hN σ7 H7 n7
      refine ⟨m', hm, i + 1, σ7, H7, I7.unpinned, T.keep _ _ _ st5 fun b hb o e => (I7.pin (b, o) (List.mem_append_right _ (List.mem_append_right _ (mem_pinsAt hb e)))).1, fun b hb => ?_, w7⟩
      obtain ⟨o, e, d⟩ := T.obj _ _ st5 b hb
      exact (I7.pin (b, o) (List.mem_append_right _ (List.mem_append_right _ (mem_pinsAt hb e)))).2.1
    cases f with
    | next => obtain ⟨σ7, H7, I7, n7⟩ := q7; exact again I7 n7
    | cont => obtain ⟨σ7, H7, I7, n7⟩ := q7; exact again I7 n7
    | brk => obtain ⟨σ7, H7, I7, q7⟩ := q7; exact ⟨σ7, H7, I7.unpinned, q7⟩
    | ret v => obtain ⟨x7, σ7, H7, I7, r7, q7⟩ := q7; exact ⟨x7, σ7, H7, I7.unpinned, r7, q7⟩
end

theorem for_list {K : PySem.W.Frag} {a : Addr} {xs : List V} {g : TG} {tb : TS} {D : Ends} {σ : St} {H : Hp} (Pv : Nat → St → Hp → Prop) (h0 : Pv 0 σ H) (hl : ∀ i σ H, i ≤ xs.length → Pv i σ H → SqL K H a xs)
    (hs : ∀ i x σ H, xs[i]? = some x → Pv i σ H → g x σ H fun σ2 H2 => tb { D with nx := Pv (i + 1), ct := Pv (i + 1), bk := D.nx } σ2 H2) (hd : ∀ σ H, Pv xs.length σ H → D.nx σ H) :
    ∃ W : Nat → Nat → St → Hp → Prop, (∃ m, W 0 m σ H) ∧ ∀ i m σ H, W i m σ H →
      ((Itl K a).stop i H ∧ D.nx σ H) ∨ ((Itl K a).go i H ∧ ∃ N : St → Hp → Prop, (∀ σ' H', N σ' H' → ∃ m', m' < m ∧ W (i + 1) m' σ' H') ∧ ∀ x H', (Itl K a).yld i H x H' → g x σ H' fun σ2 H2 => tb { D with nx := N, ct := N, bk := D.nx } σ2 H2) := by
  refine ⟨fun i m σ H => m = xs.length - i ∧ i ≤ xs.length ∧ Pv i σ H, ⟨xs.length, by simp, Nat.zero_le _, h0⟩, ?_⟩
  rintro i m σ H ⟨rfl, hi, p⟩
  have q := hl i σ H hi p
  by_cases hlt : i < xs.length
  · refine .inr ⟨⟨xs, xs[i], q, by simp [hlt]⟩, Pv (i + 1), fun σ' H' p' => ⟨xs.length - (i + 1), by omega, rfl, hlt, p'⟩, fun x H' y => ?_⟩
    obtain ⟨e, y⟩ := y
    subst e
    exact hs i x σ _ (y xs q) p
  · have e : i = xs.length := by omega
    subst e
    exact .inl ⟨⟨xs, q, Nat.le_refl _⟩, hd σ H p⟩
theorem for_tup {K : PySem.W.Frag} {a : Addr} {xs : List V} {g : TG} {tb : TS} {D : Ends} {σ : St} {H : Hp} (Pv : Nat → St → Hp → Prop) (h0 : Pv 0 σ H) (hl : ∀ i σ H, i ≤ xs.length → Pv i σ H → SqT K H a xs)
    (hs : ∀ i x σ H, xs[i]? = some x → Pv i σ H → g x σ H fun σ2 H2 => tb { D with nx := Pv (i + 1), ct := Pv (i + 1), bk := D.nx } σ2 H2) (hd : ∀ σ H, Pv xs.length σ H → D.nx σ H) :
    ∃ W : Nat → Nat → St → Hp → Prop, (∃ m, W 0 m σ H) ∧ ∀ i m σ H, W i m σ H →
      ((Itt K a).stop i H ∧ D.nx σ H) ∨ ((Itt K a).go i H ∧ ∃ N : St → Hp → Prop, (∀ σ' H', N σ' H' → ∃ m', m' < m ∧ W (i + 1) m' σ' H') ∧ ∀ x H', (Itt K a).yld i H x H' → g x σ H' fun σ2 H2 => tb { D with nx := N, ct := N, bk := D.nx } σ2 H2) := by
  refine ⟨fun i m σ H => m = xs.length - i ∧ i ≤ xs.length ∧ Pv i σ H, ⟨xs.length, by simp, Nat.zero_le _, h0⟩, ?_⟩
  rintro i m σ H ⟨rfl, hi, p⟩
  have q := hl i σ H hi p
  by_cases hlt : i < xs.length
  · refine .inr ⟨⟨xs, xs[i], q, by simp [hlt]⟩, Pv (i + 1), fun σ' H' p' => ⟨xs.length - (i + 1), by omega, rfl, hlt, p'⟩, fun x H' y => ?_⟩
    obtain ⟨e, y⟩ := y
    subst e
    exact hs i x σ _ (y xs q) p
  · have e : i = xs.length := by omega
    subst e
    exact .inl ⟨⟨xs, q, Nat.le_refl _⟩, hd σ H p⟩
theorem for_range {lo : Int} {n : Nat} {g : TG} {tb : TS} {D : Ends} {σ : St} {H : Hp} (Pv : Nat → St → Hp → Prop) (h0 : Pv 0 σ H)
    (hs : ∀ i σ H, i < n → Pv i σ H → g (.int (lo + i)) σ H fun σ2 H2 => tb { D with nx := Pv (i + 1), ct := Pv (i + 1), bk := D.nx } σ2 H2) (hd : ∀ σ H, Pv n σ H → D.nx σ H) :
    ∃ W : Nat → Nat → St → Hp → Prop, (∃ m, W 0 m σ H) ∧ ∀ i m σ H, W i m σ H →
      ((Itr lo n).stop i H ∧ D.nx σ H) ∨ ((Itr lo n).go i H ∧ ∃ N : St → Hp → Prop, (∀ σ' H', N σ' H' → ∃ m', m' < m ∧ W (i + 1) m' σ' H') ∧ ∀ x H', (Itr lo n).yld i H x H' → g x σ H' fun σ2 H2 => tb { D with nx := N, ct := N, bk := D.nx } σ2 H2) := by
  refine ⟨fun i m σ H => m = n - i ∧ i ≤ n ∧ Pv i σ H, ⟨n, by simp, Nat.zero_le _, h0⟩, ?_⟩
  rintro i m σ H ⟨rfl, hi, p⟩
  by_cases hlt : i < n
  · refine .inr ⟨hlt, Pv (i + 1), fun σ' H' p' => ⟨n - (i + 1), by omega, rfl, hlt, p'⟩, fun x H' y => ?_⟩
    obtain ⟨e, y⟩ := y
    subst e y
    exact hs i σ _ hlt p
  · have e : i = n := by omega
    subst e
    exact .inl ⟨Nat.le_refl _, hd σ H p⟩
end L2

namespace L2
open PySem PySem.Spec PyProof.Rows

abbrev R2 := V → V → Hp → VK → Prop
def OpR (X : Cx) (f : Value → Value → Sem Value) (r : R2) : Prop :=
  ∀ (pins : List (Addr × Obj)) (s : Shared) (σ : St) (H : Hp) (x y : V) (v u : Value) (Q : VK), Inv X pins σ H s → RelV x v → RelV y u → r x y H Q →
    wpAny (model X.prog X.w) X.A (f v u) (EP X pins σ Q) X.xe s
def UnR (X : Cx) (f : Value → Sem Value) (r : V → Hp → VK → Prop) : Prop :=
  ∀ (pins : List (Addr × Obj)) (s : Shared) (σ : St) (H : Hp) (x : V) (v : Value) (Q : VK), Inv X pins σ H s → RelV x v → r x H Q →
    wpAny (model X.prog X.w) X.A (f v) (EP X pins σ Q) X.xe s
def CallR (X : Cx) (f : Value) (r : List V → Hp → VK → Prop) : Prop :=
  ∀ (pins : List (Addr × Obj)) (s : Shared) (σ : St) (H : Hp) (xs : List V) (us : List Value) (Q : VK), Inv X pins σ H s → Vals xs us → r xs H Q →
    wpAny (model X.prog X.w) X.A (call f us) (EP X pins σ Q) X.xe s
def tOp (r : R2) (ta tb : TE) : TE := fun σ H Q => ta σ H fun x H1 => tb σ H1 fun y H2 => r x y H2 Q
def tUn (r : V → Hp → VK → Prop) (ta : TE) : TE := fun σ H Q => ta σ H fun x H1 => r x H1 Q
def rI (C : Int → Int → Prop) (g : Int → Int → V) : R2 := fun x y H Q => ∃ i j, x = .int i ∧ y = .int j ∧ C i j ∧ Q (g i j) H
def rI0 (g : Int → Int → V) : R2 := fun x y H Q => ∃ i j, x = .int i ∧ y = .int j ∧ Q (g i j) H
def rU (g : Int → V) : V → Hp → VK → Prop := fun x H Q => ∃ i, x = .int i ∧ Q (g i) H

section
variable {X : Cx} {a b c : Expr} {ta tb tc : TE} {pos : Pos}

theorem binT (ha : PE X a ta) (hb : PE X b tb) {pins : List (Addr × Obj)} {s : Shared} {σ : St} {H : Hp} {R : V → V → Hp → Prop} (I : Inv X pins σ H s)
    (h : ta σ H fun x H1 => tb σ H1 fun y H2 => R x y H2) {Q : Value → Shared → Prop} {f : Value → Value → Sem Value}
    (hf : ∀ v u s2 x y H2, Inv X pins σ H2 s2 → RelV x v → RelV y u → R x y H2 → wpAny (model X.prog X.w) X.A (f v u) Q X.xe s2) :
    wpAny (model X.prog X.w) X.A (eval a X.env) (fun v s₁ => wpAny (model X.prog X.w) X.A (eval b X.env) (fun u s₂ => wpAny (model X.prog X.w) X.A (f v u) Q X.xe s₂) X.xe s₁) X.xe s := by
  refine thn (ha pins s σ H _ I h) fun v s1 hx9 => ?_
  obtain ⟨x, H1, I1, r1, q1⟩ := hx9
  refine thn (hb pins s1 σ H1 _ I1 q1) fun u s2 hx9 => ?_
  obtain ⟨y, H2, I2, r2, q2⟩ := hx9
  exact hf v u s2 x y H2 I2 r1 r2 q2

theorem pe_op {op : Operator} {r : R2} (ho : OpR X (binaryOp op) r) (ha : PE X a ta) (hb : PE X b tb) : PE X (.BinOp a op b pos) (tOp r ta tb) := by
  intro pins s σ H Q I h
  exact wpAny_BinOp (binT ha hb I h fun v u s2 x y H2 I2 rx ry q => ho pins s2 σ H2 x y v u Q I2 rx ry q)
theorem pe_un {op : UnaryOp} {r : V → Hp → VK → Prop} (ho : UnR X (unaryOp op) r) (ha : PE X a ta) : PE X (.UnaryOp op a pos) (tUn r ta) := by
  intro pins s σ H Q I h
  refine UnaryOp_ (thn (ha pins s σ H _ I h) fun v s1 hx9 => ?_)
  obtain ⟨x, H1, I1, r1, q1⟩ := hx9
  exact ho pins s1 σ H1 x v Q I1 r1 q1
theorem opI {f : Value → Value → Sem Value} {C : Int → Int → Prop} {g : Int → Int → Int}
    (rule : ∀ (i j : Int) (t u : Tok) (s : Shared) (Q : Value → Shared → Prop) (E : Value → Shared → Prop), C i j → Q (.int (g i j) s.toks) { s with toks := s.toks + 1 } → wpAny (model X.prog X.w) X.A (f (.int i t) (.int j u)) Q E s) :
    OpR X f (rI C fun i j => .int (g i j)) := by
  intro pins s σ H x y v u Q I rx ry h
  obtain ⟨i, j, rfl, rfl, hc, q⟩ := h
  obtain ⟨t, rfl⟩ := rx
  obtain ⟨t', rfl⟩ := ry
  exact rule i j t t' s _ _ hc ⟨.int (g i j), H, I.tok _, ⟨_, rfl⟩, q⟩
theorem opI0 {f : Value → Value → Sem Value} {g : Int → Int → Int}
    (rule : ∀ (i j : Int) (t u : Tok) (s : Shared) (Q : Value → Shared → Prop) (E : Value → Shared → Prop), Q (.int (g i j) s.toks) { s with toks := s.toks + 1 } → wpAny (model X.prog X.w) X.A (f (.int i t) (.int j u)) Q E s) :
    OpR X f (rI0 fun i j => .int (g i j)) := by
  intro pins s σ H x y v u Q I rx ry h
  obtain ⟨i, j, rfl, rfl, q⟩ := h
  obtain ⟨t, rfl⟩ := rx
  obtain ⟨t', rfl⟩ := ry
  exact rule i j t t' s _ _ ⟨.int (g i j), H, I.tok _, ⟨_, rfl⟩, q⟩
theorem opB0 {f : Value → Value → Sem Value} {g : Int → Int → Bool}
    (rule : ∀ (i j : Int) (t u : Tok) (s : Shared) (Q : Value → Shared → Prop) (E : Value → Shared → Prop), Q (.bool (g i j)) s → wpAny (model X.prog X.w) X.A (f (.int i t) (.int j u)) Q E s) :
    OpR X f (rI0 fun i j => .bl (g i j)) := by
  intro pins s σ H x y v u Q I rx ry h
  obtain ⟨i, j, rfl, rfl, q⟩ := h
  obtain ⟨t, rfl⟩ := rx
  obtain ⟨t', rfl⟩ := ry
  exact rule i j t t' s _ _ ⟨.bl (g i j), H, I, rfl, q⟩

def CPow (i j : Int) : Prop := 0 ≤ j ∧ j ≤ 1000000 ∧ i.natAbs < 2 ^ 64
def CMul (i j : Int) : Prop := (-(2 ^ 64) < i ∧ i < 2 ^ 64) ∨ (-(2 ^ 64) < j ∧ j < 2 ^ 64)
theorem CMul.ok {i j : Int} (h : CMul i j) : IntMulOk i j := by
  rcases h with ⟨h1, h2⟩ | ⟨h1, h2⟩
  · exact .of_left (intBits_le_64 h1 h2)
  · exact .of_right (intBits_le_64 h1 h2)
theorem op_add : OpR X (binaryOp .Add) (rI0 fun i j => .int (i + j)) := opI0 fun _ _ _ _ _ _ _ q => add_int q
theorem op_mul : OpR X (binaryOp .Mult) (rI CMul fun i j => .int (i * j)) := opI fun _ _ _ _ _ _ _ hc q => mul_int q hc.ok
theorem op_mod : OpR X (binaryOp .Mod) (rI (fun _ j => 0 < j) fun i j => .int (i % j)) := opI fun i j _ _ _ _ _ hc q => by
  have h1 : (0 : Int) < j := hc
  exact mod_int' (by omega) (by rw [Int.fmod_eq_emod_of_nonneg i (by omega)]; exact q)
theorem op_pow : OpR X (binaryOp .Pow) (rI CPow fun i j => .int (i ^ j.toNat)) := opI fun _ _ _ _ _ _ _ hc q => pow_int_small hc.1 hc.2.1 hc.2.2 q
theorem unI {f : Value → Sem Value} {g : Int → Int}
    (rule : ∀ (i : Int) (t : Tok) (s : Shared) (Q : Value → Shared → Prop) (E : Value → Shared → Prop), Q (.int (g i) s.toks) { s with toks := s.toks + 1 } → wpAny (model X.prog X.w) X.A (f (.int i t)) Q E s) :
    UnR X f (rU fun i => .int (g i)) := by
  intro pins s σ H x v Q I rx h
  obtain ⟨i, rfl, q⟩ := h
  obtain ⟨t, rfl⟩ := rx
  exact rule i t s _ _ ⟨.int (g i), H, I.tok _, ⟨_, rfl⟩, q⟩
theorem un_neg : UnR X (unaryOp .USub) (rU fun i => .int (-i)) := unI fun _ _ _ _ _ q => neg_int q
end

def scal : V → V → Bool
  | .non, .non => true | .non, .int _ => true | .int _, .non => true | .non, .bl _ => true | .bl _, .non => true | .non, .str _ => true | .str _, .non => true
  | .int _, .int _ => true | .bl _, .bl _ => true | .str _, .str _ => true | .byt _, .byt _ => true
  | .int _, .str _ => true | .str _, .int _ => true | .bl _, .str _ => true | .str _, .bl _ => true
  | _, _ => false
def rEq : R2 := fun x y H Q => scal x y = true ∧ Q (.bl (decide (x = y))) H
def rNe : R2 := fun x y H Q => scal x y = true ∧ Q (.bl (!decide (x = y))) H

theorem dec_int {i j : Int} : decide (V.int i = V.int j) = (i == j) := by
  rw [Bool.eq_iff_iff]
  simp
theorem dec_bl {i j : Bool} : decide (V.bl i = V.bl j) = (i == j) := by
  rw [Bool.eq_iff_iff]
  simp
theorem dec_str {i j : Str} : decide (V.str i = V.str j) = (i == j) := by
  rw [Bool.eq_iff_iff]
  simp
theorem dec_byt {i j : Array UInt8} : decide (V.byt i = V.byt j) = (i.toList == j.toList) := by
  rw [Bool.eq_iff_iff]
  cases i
  cases j
  simp

section
variable {X : Cx} {a b c : Expr} {ta tb tc : TE} {pos : Pos}
theorem fin_bl {pins : List (Addr × Obj)} {σ : St} {H : Hp} {s : Shared} {Q : VK} {k k' : Bool} (I : Inv X pins σ H s) (q : Q (.bl k) H) (e : k = k') : EP X pins σ Q (.bool k') s := by
  subst e
  exact ⟨.bl k, H, I, rfl, q⟩
theorem op_eq : OpR X (compareOp .Eq) rEq := by
  intro pins s σ H x y v u Q I rx ry h
  obtain ⟨hs, q⟩ := h
  cases x with
  | non =>
    cases rx
    cases y with
    | non => cases ry; exact PySem.EqNone.eq_none_none (fin_bl I q (by simp))
    | bl j => cases ry; exact PySem.EqNone.eq_none_bool (fin_bl I q (by simp))
    | int j => obtain ⟨t', rfl⟩ := ry; exact PySem.EqNone.eq_none_int (fin_bl I q (by simp))
    | str j => obtain ⟨t', rfl⟩ := ry; exact PySem.EqNone.eq_none_str (fin_bl I q (by simp))
    | _ => exact absurd (show false = true from hs) Bool.false_ne_true
  | bl i =>
    cases rx
    cases y with
    | non => cases ry; exact PySem.EqNone.eq_bool_none (fin_bl I q (by simp))
    | bl j => cases ry; exact eq_bool (fin_bl I q dec_bl)
    | str j => obtain ⟨t', rfl⟩ := ry; exact PySem.EqMixed.eq_bool_str (fin_bl I q (by simp))
    | _ => exact absurd (show false = true from hs) Bool.false_ne_true
  | int i =>
    obtain ⟨t, rfl⟩ := rx
    cases y with
    | non => cases ry; exact PySem.EqNone.eq_int_none (fin_bl I q (by simp))
    | int j => obtain ⟨t', rfl⟩ := ry; exact eq_int (fin_bl I q dec_int)
    | str j => obtain ⟨t', rfl⟩ := ry; exact PySem.EqMixed.eq_int_str (fin_bl I q (by simp))
    | _ => exact absurd (show false = true from hs) Bool.false_ne_true
  | str i =>
    obtain ⟨t, rfl⟩ := rx
    cases y with
    | non => cases ry; exact PySem.EqNone.eq_str_none (fin_bl I q (by simp))
    | bl j => cases ry; exact PySem.EqMixed.eq_str_bool (fin_bl I q (by simp))
    | int j => obtain ⟨t', rfl⟩ := ry; exact PySem.EqMixed.eq_str_int (fin_bl I q (by simp))
    | str j => obtain ⟨t', rfl⟩ := ry; exact eq_str (fin_bl I q dec_str)
    | _ => exact absurd (show false = true from hs) Bool.false_ne_true
  | byt i =>
    obtain ⟨t, rfl⟩ := rx
    cases y with
    | byt j => obtain ⟨t', rfl⟩ := ry; exact PySem.W.eq_bytes (fin_bl I q dec_byt)
    | _ => exact absurd (show false = true from hs) Bool.false_ne_true
  | _ => cases y <;> exact absurd (show false = true from hs) Bool.false_ne_true
theorem op_ne : OpR X (compareOp .NotEq) rNe := by
  intro pins s σ H x y v u Q I rx ry h
  obtain ⟨hs, q⟩ := h
  cases x with
  | non =>
    cases rx
    cases y with
    | non => cases ry; exact PySem.EqNone.ne_none_none (fin_bl I q (by simp))
    | bl j => cases ry; exact PySem.EqNone.ne_none_bool (fin_bl I q (by simp))
    | int j => obtain ⟨t', rfl⟩ := ry; exact PySem.EqNone.ne_none_int (fin_bl I q (by simp))
    | str j => obtain ⟨t', rfl⟩ := ry; exact PySem.EqNone.ne_none_str (fin_bl I q (by simp))
    | _ => exact absurd (show false = true from hs) Bool.false_ne_true
  | bl i =>
    cases rx
    cases y with
    | non => cases ry; exact PySem.EqNone.ne_bool_none (fin_bl I q (by simp))
    | bl j => cases ry; exact ne_bool (fin_bl I q (congrArg not dec_bl))
    | str j => obtain ⟨t', rfl⟩ := ry; exact PySem.EqMixed.ne_bool_str (fin_bl I q (by simp))
    | _ => exact absurd (show false = true from hs) Bool.false_ne_true
  | int i =>
    obtain ⟨t, rfl⟩ := rx
    cases y with
    | non => cases ry; exact PySem.EqNone.ne_int_none (fin_bl I q (by simp))
    | int j => obtain ⟨t', rfl⟩ := ry; exact ne_int (fin_bl I q (congrArg not dec_int))
    | str j => obtain ⟨t', rfl⟩ := ry; exact PySem.EqMixed.ne_int_str (fin_bl I q (by simp))
    | _ => exact absurd (show false = true from hs) Bool.false_ne_true
  | str i =>
    obtain ⟨t, rfl⟩ := rx
    cases y with
    | non => cases ry; exact PySem.EqNone.ne_str_none (fin_bl I q (by simp))
    | bl j => cases ry; exact PySem.EqMixed.ne_str_bool (fin_bl I q (by simp))
    | int j => obtain ⟨t', rfl⟩ := ry; exact PySem.EqMixed.ne_str_int (fin_bl I q (by simp))
    | str j => obtain ⟨t', rfl⟩ := ry; exact ne_str (fin_bl I q (congrArg not dec_str))
    | _ => exact absurd (show false = true from hs) Bool.false_ne_true
  | byt i =>
    obtain ⟨t, rfl⟩ := rx
    cases y with
    | byt j => obtain ⟨t', rfl⟩ := ry; exact PySem.W.ne_bytes (fin_bl I q (congrArg not dec_byt))
    | _ => exact absurd (show false = true from hs) Bool.false_ne_true
  | _ => cases y <;> exact absurd (show false = true from hs) Bool.false_ne_true

theorem op_lt : OpR X (compareOp .Lt) (rI0 fun i j => .bl (decide (i < j))) := opB0 fun _ _ _ _ _ _ _ q => lt_int q
theorem op_le : OpR X (compareOp .LtE) (rI0 fun i j => .bl (decide (i ≤ j))) := opB0 fun _ _ _ _ _ _ _ q => le_int q
theorem op_gt : OpR X (compareOp .Gt) (rI0 fun i j => .bl (decide (j < i))) := opB0 fun _ _ _ _ _ _ _ q => gt_int q
theorem op_ge : OpR X (compareOp .GtE) (rI0 fun i j => .bl (decide (j ≤ i))) := opB0 fun _ _ _ _ _ _ _ q => ge_int q
theorem op_in_str : OpR X (compareOp .In) (fun x y H Q => ∃ i j, x = .str i ∧ y = .str j ∧ Q (.bl (!(Builtin.Str.occurrences j i 0 j.length 1).isEmpty)) H) := by
  intro pins s σ H x y v u Q I rx ry h
  obtain ⟨i, j, rfl, rfl, q⟩ := h
  obtain ⟨t, rfl⟩ := rx
  obtain ⟨t', rfl⟩ := ry
  exact in_str (fin_bl I q rfl)

theorem nomark (b : Expr) {op : CmpOp} (h : op ≠ .In := by decide) (h2 : op ≠ .NotIn := by decide) : behindInMarks op b = false := by
  have e1 : (op == CmpOp.In) = false := by cases op <;> first | rfl | exact absurd rfl h
  have e2 : (op == CmpOp.NotIn) = false := by cases op <;> first | rfl | exact absurd rfl h2
  cases b <;> simp [behindInMarks, e1, e2]
theorem pe_cmpR {op : CmpOp} {r : R2} (ho : OpR X (compareOp op) r) (ha : PE X a ta) (hb : PE X b tb) (hm : behindInMarks op b = false) : PE X (.Compare a [op] [b] pos) (tOp r ta tb) := by
  intro pins s σ H Q I h
  exact wpAny_Compare1 (binT ha hb I h fun v u s2 x y H2 I2 rx ry q => ho pins s2 σ H2 x y v u Q I2 rx ry q) hm
def tTest (t : TE) : TT := fun σ H Q => t σ H fun x H' => ∃ k, x = .bl k ∧ Q k H'
theorem pt_cmpR {op : CmpOp} {r : R2} (ho : OpR X (compareOp op) r) (ha : PE X a ta) (hb : PE X b tb) (hm : behindInMarks op b = false) : PT X (.Compare a [op] [b] pos) (tTest (tOp r ta tb)) := by
  intro pins s σ H Q I h
  refine wpAny_isTrue_Compare1 (thn (ha pins s σ H _ I h) fun v s1 ⟨x, H1, I1, r1, q1⟩ => thn (hb pins s1 σ H1 _ I1 q1) fun u s2 ⟨y, H2, I2, r2, q2⟩ =>
    thn (ho pins s2 σ H2 x y v u _ I2 r1 r2 q2) fun c s3 ⟨z, H3, I3, r3, k, e, q3⟩ => ?_) hm
  subst e
  cases r3
  exact wpAny_truthy_bool ⟨H3, I3, q3⟩
def tChain (r r' : R2) (ta tb tc : TE) : TE := fun σ H Q => ta σ H fun x H1 => tb σ H1 fun y H2 => r x y H2 fun z H3 => ∃ k, z = .bl k ∧
  (if k = true then tc σ H3 fun w' H4 => r' y w' H4 Q else Q (.bl false) H3)
theorem pe_chain {op op' : CmpOp} {r r' : R2} (ho : OpR X (compareOp op) r) (ho' : OpR X (compareOp op') r') (ha : PE X a ta) (hb : PE X b tb) (hc : PE X c tc)
    (hm : lastMarks [op, op'] [b, c] = false := by with_unfolding_all rfl) : PE X (.Compare a [op, op'] [b, c] pos) (tChain r r' ta tb tc) := by
  intro pins s σ H Q I h
  refine Compare_chain (thn (ha pins s σ H _ I h) fun v s1 ⟨x, H1, I1, r1, q1⟩ => chain_link (thn (hb pins s1 σ H1 _ I1 q1) fun u s2 ⟨y, H2, I2, r2, q2⟩ =>
    thn (ho pins s2 σ H2 x y v u _ I2 r1 r2 q2) fun d s3 ⟨z, H3, I3, r3, k, e, q3⟩ => ?_)) hm
  subst e
  cases r3
  refine wpAny_truthy_bool ?_
  cases k with
  | false => exact ite_ff ⟨.bl false, H3, I3, rfl, q3⟩
  | true => exact ite_tt (chain_last (thn (hc pins s3 σ H3 _ I3 q3) fun w' s4 ⟨z', H4, I4, r4, q4⟩ => ho' pins s4 σ H4 y z' u w' Q I4 r2 r4 q4))
theorem pt_chain {op op' : CmpOp} {r r' : R2} (ho : OpR X (compareOp op) r) (ho' : OpR X (compareOp op') r') (ha : PE X a ta) (hb : PE X b tb) (hc : PE X c tc)
    (hm : lastMarks [op, op'] [b, c] = false := by with_unfolding_all rfl) : PT X (.Compare a [op, op'] [b, c] pos) (tTest (tChain r r' ta tb tc)) := by
  intro pins s σ H Q I h
  refine isTrue_chain (thn (ha pins s σ H _ I h) fun v s1 ⟨x, H1, I1, r1, q1⟩ => test_link (thn (hb pins s1 σ H1 _ I1 q1) fun u s2 ⟨y, H2, I2, r2, q2⟩ =>
    thn (ho pins s2 σ H2 x y v u _ I2 r1 r2 q2) fun d s3 ⟨z, H3, I3, r3, k, e, q3⟩ => ?_)) hm
  subst e
  cases r3
  refine wpAny_truthy_bool ?_
  cases k with
  | false =>
    obtain ⟨k', e', q'⟩ := q3
    cases e'
    exact ite_ff ⟨H3, I3, q'⟩
  | true =>
    refine ite_tt (test_last (thn (hc pins s3 σ H3 _ I3 q3) fun w' s4 ⟨z', H4, I4, r4, q4⟩ => thn (ho' pins s4 σ H4 y z' u w' _ I4 r2 r4 q4) fun d' s5 hx9 => ?_))
    obtain ⟨z2, H5, I5, r5, k2, e2, q5⟩ := hx9
    subst e2
    cases r5
    exact wpAny_truthy_bool ⟨H5, I5, q5⟩

theorem line63 : (sizeLine : Nat) < 2 ^ 63 := by rw [sizeLine_eq]; decide
theorem op_add_str : OpR X (binaryOp .Add) (fun x y H Q => ∃ i j, x = .str i ∧ y = .str j ∧ i.length + j.length ≤ sizeLine ∧ Q (.str (i ++ j)) H) := by
  intro pins s σ H x y v u Q I rx ry h
  obtain ⟨i, j, rfl, rfl, hz, q⟩ := h
  obtain ⟨t, rfl⟩ := rx
  obtain ⟨t', rfl⟩ := ry
  exact add_str (fun t' tk => ⟨.str (i ++ j), H, I.tok _, ⟨_, rfl⟩, q⟩) hz
theorem vals1 {x : V} {us : List Value} (r : Vals [x] us) : ∃ u, us = [u] ∧ RelV x u := by
  cases r with
  | cons r1 r2 => cases r2; exact ⟨_, rfl, r1⟩
theorem vals2 {x y : V} {us : List Value} (r : Vals [x, y] us) : ∃ u w', us = [u, w'] ∧ RelV x u ∧ RelV y w' := by
  cases r with
  | cons r1 r2 =>
    cases r2 with
    | cons r3 r4 => cases r4; exact ⟨_, _, rfl, r1, r3⟩
theorem call_int1 : CallR X (.type "int") (fun xs H Q => (∃ i, xs = [.int i] ∧ Q (.int i) H) ∨ ∃ k, xs = [.bl k] ∧ Q (.int (if k then 1 else 0)) H) := by
  intro pins s σ H xs us Q I r h
  rcases h with ⟨i, rfl, q⟩ | ⟨k, rfl, q⟩
  · obtain ⟨u, rfl, t, rfl⟩ := vals1 r
    exact call_int_int ⟨.int i, H, I, ⟨_, rfl⟩, q⟩
  · obtain ⟨u, rfl, r1⟩ := vals1 r
    cases r1
    exact call_int_bool ⟨.int (if k then 1 else 0), H, I.tok _, ⟨_, rfl⟩, q⟩
theorem call_str_int : CallR X (.type "str") (fun xs H Q => ∃ i, xs = [.int i] ∧ i.natAbs.log2 < 1920 ∧ Q (.str (toString i)) H) := by
  intro pins s σ H xs us Q I r h
  obtain ⟨i, rfl, hz, q⟩ := h
  obtain ⟨u, rfl, t, rfl⟩ := vals1 r
  exact PySem.P.str_of_int hz ⟨.str _, H, I.tok _, ⟨_, rfl⟩, q⟩
end
end L2

namespace L2
open PySem PySem.Spec PyProof.Rows

structure ObjM (h : Heap) (x dx C : Addr) (mA : Str → Option Value) : Prop where
  obj : h.get? x = some (PySem.W.instObj C dx)
  ns : h.Ns1 dx mA
  ne : dx ≠ x

section
variable {prog : Program} {w : World} {A : Around} {E : Value → Shared → Prop} {s : Shared} {K : PySem.W.Frag} {x dx C f : Addr} {mA : Str → Option Value} {name : Str} {v : Value}

end

section
variable {P : Program} {w : World} {H H' : Hp} {h h' : Heap} {a C dx : Addr} {fs fs' : List (Str × V)}
end

structure Cls (K : PySem.W.Frag) (C : Addr) : Prop where
  pg : PySem.W.plainGet K C Str.empty = true
  hd : PySem.W.hasDictIn K C = true
  po : PySem.W.plainOver K C = true
  sa : PySem.W.findIn K (.ref C) "__setattr__" = some (some (.builtin "object.__setattr__"))
theorem Cls.get {K : PySem.W.Frag} {C : Addr} (c : Cls K C) (f : Str) : PySem.W.plainGet K C f = true := c.pg
structure Con (K : PySem.W.Frag) (C : Addr) (f : Str) (v : V) (u : Value) : Prop where
  at_ : PySem.W.findIn K (.ref C) f = some (some u)
  rel : RelV v u
  get : PySem.W.specialIn K u "__get__" = some none
  cp : PySem.W.copiedNames.contains f = false
structure Meth (K : PySem.W.Frag) (C : Addr) (m : Str) (f : Addr) : Prop where
  at_ : PySem.W.findIn K (.ref C) m = some (some (.ref f))
  fn : PySem.W.isFn K (.ref f) = true
  kp : PySem.W.keepIn K (.ref f) = true

section
variable {X : Cx} {pins : List (Addr × Obj)} {σ : St} {H : Hp} {s : Shared} {a C dx : Addr} {fs : List (Str × V)} {f : Str} {v : V} {A : Around} {E : Value → Shared → Prop}

end

section
variable {X : Cx} {o e value : Expr} {f : Str} {pos pos' tpos : Pos} {ta tv : TE}
end

section
variable {X : Cx} {pins : List (Addr × Obj)} {σ : St} {H : Hp} {s : Shared} {A : Around} {E : Value → Shared → Prop} {Q : Value → Shared → Prop} {c : Value} {b : Bool}
inductive TyOf (K : PySem.W.Frag) (H : Hp) : V → Value → Prop where
  | non : TyOf K H .non (.type "NoneType")
  | bl (x : Bool) : TyOf K H (.bl x) (.type "bool")
  | int (i : Int) : TyOf K H (.int i) (.type "int")
  | str (x : Str) : TyOf K H (.str x) (.type "str")
  | flt (x : UInt64) : TyOf K H (.flt x) (.type "float")
  | lst {a : Addr} {xs : List V} (e : H a = some (.lst xs)) : TyOf K H (.ref a) (.type "list")
  | frz {a : Addr} {o : Obj} {xs : List V} (e : H a = some (.frz o (.lst xs))) : TyOf K H (.ref a) (.type "list")
  | tup {a : Addr} {xs : List V} (e : H a = some (.tup xs)) : TyOf K H (.ref a) (.type "tuple")
  | dK {a : Addr} {kvs : List (Key × V)} (e : H a = some (.dK kvs)) : TyOf K H (.ref a) (.type "dict")
  | dT {a : Addr} {kvs : List (List Key × V)} (e : H a = some (.dT kvs)) : TyOf K H (.ref a) (.type "dict")
  | ins {a C dx : Addr} {fs : List (Str × V)} (e : H a = some (.ins C dx fs)) (cl : Cls K C) (ha : PySem.W.findIn K (.ref C) "__class__" = some (some (.builtin "object.__class__")))
      (hn : PySem.W.specialIn K (.builtin "object.__class__") "__get__" = some (some (.builtin "getset_descriptor.__get__"))) (htk : PySem.W.takesIn K (.builtin "object.__class__") = some true)
      (hm : PySem.W.mroIn K C (.type "object") = some true) : TyOf K H (.ref a) (.ref C)
end
end L2

namespace L2
open PySem PySem.Spec PyProof.Rows

structure Room (k : Nat) (A : Around) : Prop where
  hd : A.handled = none
  dp : A.depth + 3 * k + 5 < recursionLimit
  un : A.units + 16 * k + 200 < cLine
  gd : A.guards = some []
theorem Room.mono {j k : Nat} {A : Around} (r : Room k A) (h : j ≤ k) : Room j A := ⟨r.hd, by have := r.dp; omega, by have := r.un; omega, r.gd⟩
theorem Room.deeper {k : Nat} {A : Around} (r : Room (k + 1) A) (env : Env) : Room k (A.deeper env) :=
  ⟨r.hd, by have := r.dp; show A.depth + 1 + 3 * k + 5 < _; omega, by have := r.un; show A.units + 3 + 16 * k + 200 < _; omega, r.gd⟩
theorem Room.in1 {k : Nat} {A : Around} (r : Room (k + 1) A) : Room k A.in1 :=
  ⟨r.hd, by have := r.dp; show A.depth + 3 * k + 5 < _; omega, by have := r.un; show A.units + 1 + 16 * k + 200 < _; omega, r.gd⟩
theorem Room.depth {k : Nat} {A : Around} (r : Room k A) : A.depth < recursionLimit := by have := r.dp; omega
theorem Room.units {k : Nat} {A : Around} (r : Room k A) : A.units + 64 < cLine := by have := r.un; omega
abbrev tNil : TA := fun _ H Q => Q [] H
abbrev tCons (ta : TE) (tr : TA) : TA := fun σ H Q => ta σ H fun x H1 => tr σ H1 fun xs H2 => Q (x :: xs) H2
section
variable {X : Cx} {e : Expr} {es : List Expr} {te : TE} {t : TA} {pos : Pos}
theorem pa_nil : PA X [] tNil := fun _ _ _ _ H Q I h => Calls.spliced_nil ⟨[], H, I, .nil, h⟩
theorem pa_cons (ha : PE X e te) (hr : PA X es t) (hs : starEach (e :: es) X.env = (false, eval e X.env) :: starEach es X.env := by rfl) : PA X (e :: es) (tCons te t) := by
  intro pos pins s σ H Q I h
  rw [hs]
  show wpAny _ _ (spliced ((false, eval e X.env) :: backTo pos (starEach es X.env))) _ _ s
  refine Calls.spliced_cons (thn (ha pins s σ H _ I h) fun u s1 hx9 => ?_)
  obtain ⟨x, H1, I1, r1, q1⟩ := hx9
  refine thn (hr pos pins s1 σ H1 _ I1 q1) fun us s2 hx9 => ?_
  obtain ⟨xs, H2, I2, r2, q2⟩ := hx9
  exact ⟨x :: xs, H2, I2, .cons r1 r2, q2⟩

def tTup (t : TA) : TE := fun σ H Q => t σ H fun xs H1 => xs.length ≤ sizeLine ∧ ∀ p, H1 p = none → Q (.ref p) (upd H1 p (.tup xs))
def tLst (t : TA) : TE := fun σ H Q => t σ H fun xs H1 => xs.length ≤ sizeLine ∧ ∀ p, H1 p = none → Q (.ref p) (upd H1 p (.lst xs))
theorem pe_tup {x1} (h : PA X es t) : PE X (.Tuple es x1 pos) (tTup t) := by
  intro pins s σ H Q I hq
  refine wpAny_Tuple_spliced (thn (h pos pins s σ H _ I hq) fun us s1 ⟨xs, H1, I1, r, z, q⟩ => ⟨by rw [← r.length]; exact z, ?_⟩)
  have hf : H1 s1.heap.objs.size = none := I1.hok.fresh (Nat.le_refl _)
  refine ⟨.ref s1.heap.objs.size, upd H1 s1.heap.objs.size (.tup xs), I1.laid (t' := s1.toks) (fun b u e => Heap.get?_push_of_some _ e) (Nat.le_refl _) ?_, rfl, q _ hf⟩
  exact ⟨z, us, 0, r, Heap.get?_push_size _ rfl⟩
theorem pe_lst (h : PA X es t) : PE X (.List es pos) (tLst t) := by
  intro pins s σ H Q I hq
  refine wpAny_List_spliced (thn (h pos pins s σ H _ I hq) fun us s1 ⟨xs, H1, I1, r, z, q⟩ => ⟨by rw [← r.length]; exact z, ?_⟩)
  have hf : H1 s1.heap.objs.size = none := I1.hok.fresh (Nat.le_refl _)
  refine ⟨.ref s1.heap.objs.size, upd H1 s1.heap.objs.size (.lst xs), I1.laid (t' := s1.toks) (fun b u e => Heap.get?_push_of_some _ e) (Nat.le_refl _) ?_, rfl, q _ hf⟩
  exact ⟨z, us, 0, r, Heap.get?_push_size _ rfl⟩
end

abbrev Sp := List V → Hp → VK → XK → Prop
abbrev CXT := List Env → Hp → Shared → XK → Value → Shared → Prop

structure Env0 (P : Program) (w : World) (K : PySem.W.Frag) (mg : Str → Option Value) (base : Heap) (A : Around) (outer : List Env) (s : Shared) (H : Hp) : Prop where
  frames : A.frames = some outer
  mod : Mod K mg base
  bs : ∀ b o, base.get? b = some o → s.heap.get? b = some o ∧ H b = none
  bsz : base.objs.size ≤ s.heap.objs.size
  funs : s.heap.FunFrames base outer
  frf : ∀ b ∈ frs outer, H b = none
  hok : HOk P w H s.heap
  bare : AllBare s.gens
def CE (outer : List Env) (P : Program) (w : World) (H : Hp) (s : Shared) (Q : VK) (u : Value) (s' : Shared) : Prop :=
  ∃ v H', s'.os = s.os ∧ AllBare s'.gens ∧ Un (frs outer) [] H H' s.heap s'.heap ∧ HOk P w H' s'.heap ∧ RelV v u ∧ Q v H'
def CR (CX : CXT) (outer : List Env) (P : Program) (w : World) (H : Hp) (s : Shared) (Q : VK) (E : XK) (r : Result) (s' : Shared) : Prop :=
  match r with
  | .ok (.ret u) => CE outer P w H s Q u s'
  | .ok _ => False
  | .error e => CX outer H s E e s'
structure FnOk (P : Program) (w : World) (K : PySem.W.Frag) (mg : Str → Option Value) (base : Heap) (CX : CXT) (k : Nat) (f : Addr) (fd : FuncData) (ps : List Str) (sp : Sp) : Prop where
  len : ∀ vs H Q E, sp vs H Q E → vs.length = ps.length
  run : ∀ (A : Around) (outer : List Env) (s : Shared) (H : Hp) (args : Args) (us : List Value) (vs : List V) (Q : VK) (E : XK), Room k A → Env0 P w K mg base A outer s H → BindsTo s fd args (ps.zip us) → Vals vs us → sp vs H Q E →
    codeAny (model P w) A (.call (.ref f) args) (CR CX outer P w H s Q E) s
theorem FnOk.mono {P : Program} {w : World} {K : PySem.W.Frag} {mg : Str → Option Value} {base : Heap} {CX : CXT} {j k : Nat} {f : Addr} {fd : FuncData} {ps : List Str} {sp : Sp} (F : FnOk P w K mg base CX j f fd ps sp) (h : j ≤ k) :
    FnOk P w K mg base CX k f fd ps sp := ⟨F.len, fun A outer s H args us vs Q E hr => F.run A outer s H args us vs Q E (hr.mono h)⟩
theorem Env0.in1 {P : Program} {w : World} {K : PySem.W.Frag} {mg : Str → Option Value} {base : Heap} {A : Around} {outer : List Env} {s : Shared} {H : Hp} (e : Env0 P w K mg base A outer s H) :
    Env0 P w K mg base A.in1 outer s H := ⟨e.frames, e.mod, e.bs, e.bsz, e.funs, e.frf, e.hok, e.bare⟩

section
variable {X : Cx} {pins : List (Addr × Obj)} {σ : St} {H : Hp} {s s' : Shared}
theorem Inv.env0 (I : Inv X pins σ H s) : Env0 X.prog X.w X.K X.mg X.base X.A X.stack s H :=
  ⟨I.ok.frames, I.ok.mod, I.bs, Nat.le_trans I.ok.bsz I.sz, I.stack, I.stkFree, I.hok, I.bare⟩
theorem Inv.after {Q : VK} {u : Value} (I : Inv X pins σ H s) (h : CE X.stack X.prog X.w H s Q u s') : EP X pins σ Q u s' := by
  obtain ⟨v, H', os, bare, un, hok, r, q⟩ := h
  obtain ⟨hh, g, d, t, os'⟩ := s'
  obtain rfl : os' = s.os := os
  exact ⟨v, H', I.call (h' := hh) (g' := g) (d' := d) (t' := t) (ch := []) un hok bare (fun b z => absurd z (by simp)), r, q⟩
end

def tCall (sp : Sp) (dvs : List V) (E : XK) (t : TA) : TE := fun σ H Q => t σ H fun vs H1 => sp (vs ++ dvs) H1 Q E
def Binds (K : PySem.W.Frag) (fd : FuncData) (ps : List Str) (ds : List Value) : Prop :=
  ∀ (s : Shared) (us : List Value), K.In s.heap → (us ++ ds).length = ps.length → BindsTo s fd ⟨us, []⟩ (ps.zip (us ++ ds))
theorem Binds.all {K : PySem.W.Frag} {fd : FuncData} {ps : List Str} (h : ∀ us : List Value, us.length = ps.length → bindArgs fd ⟨us, []⟩ = pure (ps.zip us)) : Binds K fd ps [] := fun s us _ hl => by
  rw [List.append_nil] at hl ⊢
  exact .of_eq (h us hl)

def Passes (CX : CXT) (X : Cx) (E : XK) : Prop := ∀ (pins : List (Addr × Obj)) (σ : St) (H : Hp) (s : Shared) (e : Value) (s' : Shared), Inv X pins σ H s → CX X.stack H s E e s' → X.xe e s'

section
variable {X : Cx} {CX : CXT} {k : Nat} {f C : Addr} {fd : FuncData} {ps : List Str} {sp : Sp} {dvs : List V} {ds : List Value} {E : XK} {x m : Str} {p pos apos : Pos} {e o : Expr} {es : List Expr} {ta : TE} {t : TA}

theorem run_fn {pins : List (Addr × Obj)} {σ : St} {H : Hp} {s : Shared} {Q : VK} {us : List Value} {vs : List V} (F : FnOk X.prog X.w X.K X.mg X.base CX k f fd ps sp) (hr : Room k X.A) (hb : Binds X.K fd ps ds) (hd : Vals dvs ds) (hx : Passes CX X E)
    (I : Inv X pins σ H s) (r : Vals vs us) (h : sp (vs ++ dvs) H Q E) : wpAny (model X.prog X.w) X.A (call (.ref f) us) (EP X pins σ Q) X.xe s := by
  have r2 : Vals (vs ++ dvs) (us ++ ds) := r.append hd
  have hl : (us ++ ds).length = ps.length := by rw [← r2.length]; exact F.len _ _ _ _ h
  refine wpAny_call (codeAny_mono (F.run X.A X.stack s H ⟨us, []⟩ (us ++ ds) (vs ++ dvs) Q E hr I.env0 (hb s us I.kIn hl) r2 h) fun r s' hq => ?_)
  cases r with
  | error e => exact hx pins σ H s e s' I hq
  | ok fl =>
    cases fl with
    | ret u => exact I.after hq
    | next => exact False.elim hq
    | brk => exact False.elim hq
    | cont => exact False.elim hq

theorem pe_call (F : FnOk X.prog X.w X.K X.mg X.base CX k f fd ps sp) (hr : Room k X.A) (hg : Gl X x) (hm : X.mg x = some (.ref f)) (hk : PySem.W.keepIn X.K (.ref f) = true) (hb : Binds X.K fd ps ds) (hd : Vals dvs ds) (hx : Passes CX X E)
    (ha : PA X (e :: es) t) (hdb : (x == ("__debug__" : Str)) = false := by decide) (he : starEach (e :: es) X.env = (false, eval e X.env) :: starEach es X.env := by rfl) (hpl : (backTo pos (starEach es X.env)).any (·.1) = false := by rfl) :
    PE X (.Call (.Name x p) (e :: es) [] pos) (tCall sp dvs E t) := by
  intro pins s σ H Q I h
  refine wpAny_Call_Name_kw (ld_glob I hg hm ?_ hdb)
  refine PySem.W.callWith_K (h₀ := X.base) I.ok.mod.kin hk (thn (ha pos pins s σ H _ I h) fun us s1 ⟨vs, H1, I1, r, q⟩ => ⟨I1.kIn, ?_⟩) he hpl
  exact run_fn F hr hb hd hx I1 r q
structure Mk (K : PySem.W.Frag) (C f : Addr) : Prop where
  makes : PySem.W.makesIn K C = true
  init : PySem.W.findIn K (.ref C) "__init__" = some (some (.ref f))
  fn : PySem.W.isFn K (.ref f) = true
  kp : PySem.W.keepIn K (.ref C) = true

end

section
variable {X : Cx} {CX : CXT} {k : Nat} {f C : Addr} {fd : FuncData} {ps ks : List Str} {sp : Sp} {E : XK} {x m : Str} {p pos apos kpos : Pos} {e o : Expr} {es : List Expr} {kws : List Keyword} {te ta : TE} {t tk : TA} {nm : Option Str}
structure KBinds (K : PySem.W.Frag) (fd : FuncData) (ps ks : List Str) (g : List Value → List Value → List Value) (gV : List V → List V → List V) : Prop where
  to : ∀ (s : Shared) (us ws : List Value), K.In s.heap → (g us ws).length = ps.length → BindsTo s fd ⟨us, ks.zip ws⟩ (ps.zip (g us ws))
  rel : ∀ {vs : List V} {us : List Value} {zs : List V} {ws : List Value}, Vals vs us → Vals zs ws → Vals (gV vs zs) (g us ws)
variable {g : List Value → List Value → List Value} {gV : List V → List V → List V}
end

structure FnScope (N P : List Str) (sc : Scope) : Prop where
  kind : sc.kind = .function
  co : sc.isCoroutine = false
  gen : sc.isGenerator = false
  nd : N.Nodup
  pre : N.take P.length = P
  par : ∀ x ∈ P, sc.names.lookup x = some .local ∨ sc.names.lookup x = some .cell
  nofree : ∀ y ∈ sc.names, y.2 ≠ .free

theorem bindL_out {kindOf : Str → Option NameKind} {x : Str} : ∀ {binds : List (Str × Value)} {m : Str → Option Value}, (∀ v, (x, v) ∉ binds) → bindL kindOf binds m x = m x
  | [], _, _ => rfl
  | (n, v) :: r, m, h => by
    unfold bindL
    rw [bindL_out fun w hw => h w (List.mem_cons_of_mem _ hw)]
    split
    · have : x ≠ n := by rintro rfl; exact h v List.mem_cons_self
      simp [this]
    · rfl
theorem bindC_out {kindOf : Str → Option NameKind} {x : Str} : ∀ {binds : List (Str × Value)} {m : Str → Option Value}, (∀ v, (x, v) ∉ binds) → bindC kindOf binds m x = m x
  | [], _, _ => rfl
  | (n, v) :: r, m, h => by
    unfold bindC
    rw [bindC_out fun w hw => h w (List.mem_cons_of_mem _ hw)]
    split
    · rfl
    · have : x ≠ n := by rintro rfl; exact h v List.mem_cons_self
      simp [this]
theorem bindL_get {kindOf : Str → Option NameKind} {x : Str} {v : Value} : ∀ {P : List Str} {vs : List Value} {i : Nat} {m : Str → Option Value}, P.Nodup → P[i]? = some x → vs[i]? = some v → kindOf x = some .local →
    bindL kindOf (P.zip vs) m x = some v
  | [], _, _, _, _, h, _, _ => by simp at h
  | _ :: _, [], _, _, _, _, h, _ => by simp at h
  | p :: P, w :: vs, 0, m, nd, h1, h2, hk => by
    simp at h1 h2; subst h1; subst h2
    show bindL kindOf ((p, w) :: P.zip vs) m p = _
    unfold bindL
    rw [bindL_out fun v hv => (List.nodup_cons.mp nd).1 (List.of_mem_zip hv).1, if_pos hk]
    simp
  | p :: P, w :: vs, i + 1, m, nd, h1, h2, hk => by
    show bindL kindOf ((p, w) :: P.zip vs) m x = _
    unfold bindL
    exact bindL_get (i := i) (List.nodup_cons.mp nd).2 (by simpa using h1) (by simpa using h2) hk
theorem bindC_get {kindOf : Str → Option NameKind} {x : Str} {v : Value} : ∀ {P : List Str} {vs : List Value} {i : Nat} {m : Str → Option Value}, P.Nodup → P[i]? = some x → vs[i]? = some v → kindOf x ≠ some .local →
    bindC kindOf (P.zip vs) m x = some v
  | [], _, _, _, _, h, _, _ => by simp at h
  | _ :: _, [], _, _, _, _, h, _ => by simp at h
  | p :: P, w :: vs, 0, m, nd, h1, h2, hk => by
    simp at h1 h2; subst h1; subst h2
    show bindC kindOf ((p, w) :: P.zip vs) m p = _
    unfold bindC
    rw [bindC_out fun v hv => (List.nodup_cons.mp nd).1 (List.of_mem_zip hv).1, if_neg hk]
    simp
  | p :: P, w :: vs, i + 1, m, nd, h1, h2, hk => by
    show bindC kindOf ((p, w) :: P.zip vs) m x = _
    unfold bindC
    exact bindC_get (i := i) (List.nodup_cons.mp nd).2 (by simpa using h1) (by simpa using h2) hk

def start (N : List Str) (vs : List V) : St := vs.map some ++ List.replicate (N.length - vs.length) none

def cxOf (CX : CXT) (P : Program) (w : World) (K : PySem.W.Frag) (mg : Str → Option Value) (base : Heap) (N : List Str) (qual : Str) (scope : Scope) (f : Addr) (cd : Value) (A : Around) (outer : List Env) (s : Shared) (H : Hp) (E : XK) : Cx where
  prog := P
  w := w
  K := K
  mg := mg
  base := base
  A := A.deeper (envOfC qual scope s.heap.objs.size f cd)
  N := N
  s₀ := s
  H₀ := H
  env := envOfC qual scope s.heap.objs.size f cd
  outer := outer
  stack := envOfC qual scope s.heap.objs.size f cd :: outer
  ex := []
  calm := true
  fn := fun _ => true
  pn := []
  xe := fun e s' => wpAny (model P w) (A.deeper (envOfC qual scope s.heap.objs.size f cd)) (leaving (envOfC qual scope s.heap.objs.size f cd) e) (fun _ s'' => CX outer H s E e s'') (fun e' s'' => CX outer H s E e' s'') s'

theorem cell_has {sc : Scope} {n : Nat} {x : Str} (h : sc.names.lookup x = some .cell) : ∃ c, (cellsFrom n sc.names []).lookup x = some c := by
  have q := PySem.W.cellsFrom_some sc.names n [] (.inl h)
  exact Option.isSome_iff_exists.mp q

theorem inv_start {CX : CXT} {P : Program} {w : World} {K : PySem.W.Frag} {mg : Str → Option Value} {base : Heap} {N ps : List Str} {qual : Str} {scope : Scope} {f : Addr} {cd : Value} {A : Around} {outer : List Env} {s s1 : Shared} {H : Hp} {E : XK} {us : List Value} {vs : List V}
    (S : FnScope N ps scope) (hd : A.handled = none) (e0 : Env0 P w K mg base A outer s H) (hl : vs.length = ps.length) (r : Vals vs us)
    (x : InCallC s s.heap.objs.size (bindL (envOfC qual scope s.heap.objs.size f cd).kindOf (ps.zip us) fun _ => none) (cellsFrom (s.heap.objs.size + 1) scope.names []) (bindC (envOfC qual scope s.heap.objs.size f cd).kindOf (ps.zip us) fun _ => none) s1) :
    Inv (cxOf CX P w K mg base N qual scope f cd A outer s H E) [] (start N vs) H s1 := by
  have hpl : ps.length ≤ N.length := by have := congrArg List.length S.pre; rw [List.length_take] at this; omega
  obtain ⟨h1, tk, rfl, hk⟩ := x.done
  have noA : ∀ b : Addr, b ∉ (cxOf CX P w K mg base N qual scope f cd A outer s H E).ex := fun b z => absurd (show b ∈ ([] : List Addr) from z) (by simp)
  refine ⟨⟨e0.mod, S.kind, rfl, rfl, Nat.le_refl _, fun y z c h1 h2 => ?_, fun y hy => ?_, fun y c _ h => ?_, fun _ => hd, Around.frames_deeper e0.frames, .inr ⟨rfl, rfl⟩, fun b z => absurd z (noA b), e0.bs, e0.bsz, fun b _ _ => noA b, fun b z => absurd z (noA b), e0.funs, e0.frf⟩,
    rfl, e0.bare, Un.kept hk, ⟨_, x.toInCall.ns, fun i y v h1 h2 h3 => ?_⟩, fun y c h => ⟨_, x.cell y c h⟩, e0.hok.fresh (Nat.le_refl _), fun y c h => ?_, fun p hp => absurd (show p ∈ ([] : List (Addr × Obj)) from hp) (by simp), e0.hok.kept hk, ?_⟩
  · exact name_of_addr x.apart (PySem.mem_of_lookup h1) (PySem.mem_of_lookup h2)
  · have hy : scope.names.lookup y = some .cell ∨ scope.names.lookup y = some .free := hy
    rcases hy with hy | hy
    · exact cell_has hy
    · exact absurd rfl (S.nofree _ (PySem.mem_of_lookup hy))
  · exact Nat.le_of_lt (x.above y c (PySem.mem_of_lookup h))
  · have hi : i < vs.length := by
      unfold start at h2
      by_cases hi : i < vs.length
      · exact hi
      · rw [List.getElem?_append_right (by simpa using hi)] at h2
        rw [List.getElem?_replicate] at h2
        split at h2 <;> cases h2
    have ha : vs[i]? = some v := by
      unfold start at h2
      rw [List.getElem?_append_left (by simpa using hi), List.getElem?_map] at h2
      cases e : vs[i]? with
      | none => rw [e] at h2; cases h2
      | some a => rw [e] at h2; cases h2; rfl
    obtain ⟨u, hu, rv⟩ := r.get ha
    have hp : ps[i]? = some y := by
      rw [← S.pre, List.getElem?_take_of_lt (by omega)]; exact h1
    have ndP : ps.Nodup := by rw [← S.pre]; exact S.nd.sublist (List.take_sublist _ _)
    refine ⟨u, rv, ?_⟩
    rcases S.par y (List.mem_of_getElem? hp) with k | k
    · exact .inl ⟨k, bindL_get ndP hp hu k⟩
    · obtain ⟨c, e⟩ := cell_has (n := s.heap.objs.size + 1) k
      refine .inr ⟨.inl k, c, e, ?_⟩
      have q := x.cell y c e
      rw [bindC_get ndP hp hu (by show scope.names.lookup y ≠ _; rw [k]; decide)] at q
      exact q
  · exact e0.hok.fresh (Nat.le_of_lt (x.above y c (PySem.mem_of_lookup h)))
  · unfold start
    show _ = N.length
    rw [List.length_append, List.length_map, List.length_replicate]
    omega

theorem fn_of {CX : CXT} {P : Program} {w : World} {K : PySem.W.Frag} {mg : Str → Option Value} {base : Heap} {k : Nat} {f : Addr} {name qual : Str} {params : Arguments} {body : List Stmt} {scope : Scope} {dV kV doc pm cdv ct oc : Value} {an od : Option Addr}
    {osl : Array (Option Value)} {N ps : List Str} {sp : Sp} (lk : K.lookup f = some ⟨oc, od, .func (PySem.W.fnOf name qual params body scope dV kV doc pm an cdv ct), osl⟩) (hcd : PySem.W.codeIn K cdv qual = true) (S : FnScope N ps scope)
    (len : ∀ vs H Q E, sp vs H Q E → vs.length = ps.length)
    (hbody : ∀ (A : Around) (outer : List Env) (s : Shared) (H : Hp) (vs : List V) (Q : VK) (E : XK), Room k (A.deeper (envOfC qual scope s.heap.objs.size f cdv)) → sp vs H Q E →
      ∃ t, PSs (cxOf CX P w K mg base N qual scope f cdv A outer s H E) body t ∧ t { nx := fun _ H' => Q .non H', rt := Q } (start N vs) H) :
    FnOk P w K mg base CX (k + 1) f (PySem.W.fnOf name qual params body scope dV kV doc pm an cdv ct) ps sp := by
  refine ⟨len, fun A outer s H args us vs Q E hr e0 hb r hsp => ?_⟩
  have hl := len _ _ _ _ hsp
  have KX : K.In s.heap := e0.mod.kin.keeps fun b o e => (e0.bs b o e).1
  have lim : s.heap.NoLimit := e0.mod.nolimit.keeps fun b o e => (e0.bs b o e).1
  have hkind : ∀ y ∈ ps.zip us, scope.names.lookup y.1 = some .local ∨ (scope.names.lookup y.1 = some .cell ∧ ((cellsFrom (s.heap.objs.size + 1) scope.names []).lookup y.1).isSome = true) := fun ⟨n, v⟩ hy => by
    rcases S.par n (List.of_mem_zip hy).1 with q | q
    · exact .inl q
    · exact .inr ⟨q, PySem.W.cellsFrom_some _ _ _ (.inl q)⟩
  refine codeAny_call_function hr.depth (KX _ _ lk) rfl S.co S.gen rfl (PySem.W.codeRec_of KX hcd) (hb _ _ _ _ ?_)
  refine wpAny_newFunctionEnv_cells S.kind hkind fun env he s1 x => ?_
  subst he
  refine ⟨lim.keeps x.toInCall.keep, codeAny_func ?_⟩
  obtain ⟨t, ht, hq⟩ := hbody A outer s H vs Q E (hr.deeper _) hsp
  have I : Inv (cxOf CX P w K mg base N qual scope f cdv A outer s H E) [] (start N vs) H s1 := inv_start S hr.hd e0 hl r x
  refine wpAny_mono (ht [] s1 (start N vs) H _ I hq) (fun fl s' hs => ?_) fun e s' hs => hs
  have fin : ∀ {σ' : St} {H' : Hp} {v : V} {u : Value}, Inv (cxOf CX P w K mg base N qual scope f cdv A outer s H E) [] σ' H' s' → RelV v u → Q v H' → CE outer P w H s Q u s' :=
    fun {σ' H' v u} J rv q => ⟨v, H', J.os, J.bare, J.base, J.hok, rv, q⟩
  cases fl with
  | ret u =>
    obtain ⟨v, σ', H', J, rv, q⟩ := hs
    exact fin J rv q
  | next =>
    obtain ⟨σ', H', J, q⟩ := hs
    exact fin (v := V.non) (u := Value.none) J rfl q
  | brk =>
    obtain ⟨_, _, _, q⟩ := hs
    exact False.elim q
  | cont =>
    obtain ⟨_, _, _, q⟩ := hs
    exact False.elim q
end L2

namespace L2
open PySem PySem.Spec PyProof.Rows
section
variable {X : Cx} {x : Str} {p pos : Pos} {e : Expr} {es : List Expr} {t : TA} {id T : String} {r : List V → Hp → VK → Prop}

def tCB (r : List V → Hp → VK → Prop) (t : TA) : TE := fun σ H Q => t σ H fun vs H1 => r vs H1 Q
theorem pe_callB (hc : CallR X (.builtin id) r) (hg : Gl X x) (hm : X.mg x = none) (hv : bootBuiltins x = some (.builtin id)) (ha : PA X (e :: es) t) (hn : x ≠ "__name__" := by decide) (hdb : (x == ("__debug__" : Str)) = false := by decide)
    (he : starEach (e :: es) X.env = (false, eval e X.env) :: starEach es X.env := by rfl) (hpl : (backTo pos (starEach es X.env)).any (·.1) = false := by rfl) : PE X (.Call (.Name x p) (e :: es) [] pos) (tCB r t) := by
  intro pins s σ H Q I h
  refine wpAny_Call_Name_kw (ld_blt I hg hm hv ?_ hn hdb)
  refine PyProof.Rows.callWith_builtin1 (thn (ha pos pins s σ H _ I h) fun us s1 hx9 => ?_) he hpl
  obtain ⟨vs, H1, I1, r1, q1⟩ := hx9
  exact hc pins s1 σ H1 vs us Q I1 r1 q1
theorem pe_callTy (hc : CallR X (.type T) r) (hg : Gl X x) (hm : X.mg x = none) (hv : bootBuiltins x = some (.type T)) (ha : PA X (e :: es) t) (hn : x ≠ "__name__" := by decide) (hdb : (x == ("__debug__" : Str)) = false := by decide)
    (he : starEach (e :: es) X.env = (false, eval e X.env) :: starEach es X.env := by rfl) (hpl : (backTo pos (starEach es X.env)).any (·.1) = false := by rfl) : PE X (.Call (.Name x p) (e :: es) [] pos) (tCB r t) := by
  intro pins s σ H Q I h
  refine wpAny_Call_Name_kw (ld_blt I hg hm hv ?_ hn hdb)
  refine PyProof.Rows.callWith_type1 (thn (ha pos pins s σ H _ I h) fun us s1 hx9 => ?_) he hpl
  obtain ⟨vs, H1, I1, r1, q1⟩ := hx9
  exact hc pins s1 σ H1 vs us Q I1 r1 q1
end
end L2

namespace HT
open PySem PyProof.Rows

section
open PySem.SeqAt
open PySem.AutoSeq1 (wpAny_loadPart')
open PySem.MeetsSeq PySem.MeetsSeq2 PySem.MeetsSeq3

end

section
variable {prog : Program} {w : World} {A : Around} {E : Value → Shared → Prop} {s : Shared}

end
end HT

namespace L2
open PySem PySem.Spec PyProof.Rows

abbrev TO := St → Hp → (Option Int → Hp → Prop) → Prop
section
variable {X : Cx} {e : Expr} {te : TE} {lo hi : Option Expr} {tl th : TO} {pos p2 : Pos}

end
end L2

namespace L2
open PySem PySem.Spec PyProof.Rows

def ixN (n : Nat) (i : Int) : Option Nat := if 0 ≤ i then (if i < n then some i.toNat else none) else if -(n : Int) ≤ i then some (i + n).toNat else none
def atI {α : Type} (xs : List α) (i : Int) : Option α := (ixN xs.length i).bind fun j => xs[j]?
theorem ixN_seq {n : Nat} {i : Int} {j : Nat} (h : ixN n i = some j) : seqIndex? i n = some j ∧ j < n ∧ -(n : Int) ≤ i ∧ i < n := by
  unfold ixN at h
  by_cases h0 : 0 ≤ i
  · rw [if_pos h0] at h
    by_cases h1 : i < n
    · rw [if_pos h1] at h
      have e : i.toNat = j := Option.some.inj h
      exact ⟨by rw [seqIndex_of h0 h1, e], by omega, by omega, h1⟩
    · rw [if_neg h1] at h; cases h
  · rw [if_neg h0] at h
    by_cases h1 : -(n : Int) ≤ i
    · rw [if_pos h1] at h
      have e : (i + n).toNat = j := Option.some.inj h
      exact ⟨by rw [seqIndex_neg (by omega) h1, e], by omega, h1, by omega⟩
    · rw [if_neg h1] at h; cases h
theorem atI_get {α : Type} {xs : List α} {i : Int} {v : α} (h : atI xs i = some v) : ∃ j, seqIndex? i xs.length = some j ∧ xs[j]? = some v ∧ j < xs.length ∧ -(xs.length : Int) ≤ i ∧ i < xs.length := by
  unfold atI at h
  cases e : ixN xs.length i with
  | none => rw [e] at h; cases h
  | some j =>
    rw [e] at h
    obtain ⟨h1, h2, h3, h4⟩ := ixN_seq e
    exact ⟨j, h1, h, h2, h3, h4⟩
theorem atI_nat {α : Type} {xs : List α} {j : Nat} {v : α} (h : xs[j]? = some v) : atI xs (j : Int) = some v := by
  have hj : j < xs.length := (List.getElem?_eq_some_iff.mp h).1
  have e : ixN xs.length (j : Int) = some j := by
    unfold ixN
    rw [if_pos (by omega), if_pos (by omega)]; simp
  unfold atI; rw [e]; exact h
def PlainIx (b : Expr) : Prop := ∀ o i, subscripted b false o i = operate [o, i] (getItem o i)
def IxR (X : Cx) (r : R2) : Prop :=
  ∀ (value slice : Expr) (pins : List (Addr × Obj)) (s : Shared) (σ : St) (H : Hp) (x y : V) (v u : Value) (Q : VK), Inv X pins σ H s → RelV x v → RelV y u → r x y H Q →
    subscripted slice false v u = operate [v, u] (getItem v u) → wpAny (model X.prog X.w) X.A (subscriptTail value slice v u) (EP X pins σ Q) X.xe s
def MtR (X : Cx) (id : String) (r : V → List V → Hp → VK → Prop) : Prop :=
  ∀ (pins : List (Addr × Obj)) (s : Shared) (σ : St) (H : Hp) (x : V) (xs : List V) (v : Value) (us : List Value) (Q : VK), Inv X pins σ H s → RelV x v → Vals xs us → r x xs H Q →
    wpAny (model X.prog X.w) X.A (call (.builtin id) (v :: us)) (EP X pins σ Q) X.xe s
section
variable {X : Cx} {a b : Expr} {ta tb : TE} {pos : Pos}
theorem pe_ix {r : R2} (hr : IxR X r) (ha : PE X a ta) (hb : PE X b tb) (hs : PlainIx b) : PE X (.Subscript a b pos) (tOp r ta tb) := by
  intro pins s σ H Q I h
  exact Subscript_ (binT ha hb I h fun v u s2 x y H2 I2 rx ry q => hr a b pins s2 σ H2 x y v u Q I2 rx ry q (hs _ _))

def rIxL (K : PySem.W.Frag) : R2 := fun x y H Q => ∃ p xs i v, x = .ref p ∧ y = .int i ∧ SqL K H p xs ∧ atI xs i = some v ∧ Q v H
def rIxT (K : PySem.W.Frag) : R2 := fun x y H Q => ∃ p xs i v, x = .ref p ∧ y = .int i ∧ SqT K H p xs ∧ atI xs i = some v ∧ Q v H
def rIxS : R2 := fun x y H Q => ∃ z i c, x = .str z ∧ y = .int i ∧ z.length ≤ sizeLine ∧ atI z.cps.toList i = some c ∧ Q (.str ⟨#[c]⟩) H
theorem ix_list : IxR X (rIxL X.K) := by
  intro value slice pins s σ H x y v u Q I rx ry h hs
  obtain ⟨p, xs, i, z, rfl, rfl, hq, he, q⟩ := h
  cases rx
  obtain ⟨t, rfl⟩ := ry
  obtain ⟨its, r, pl, hz⟩ := I.list hq
  obtain ⟨j, h1, h2, h3, h4, h5⟩ := atI_get he
  obtain ⟨w, ew, rw'⟩ := r.get h2
  have hl := r.length
  have hn := line63
  have fin : EP X pins σ Q w s := ⟨z, H, I, rw', q⟩
  by_cases h0 : 0 ≤ i
  · have hj : i.toNat = j := by
      rw [seqIndex_of h0 h5] at h1
      exact Option.some.inj h1
    exact item_listR pl.isList h0 (by omega) (by rw [hj]; simpa using ew) fin hs
  · have hj : (i + (its.toArray.size : Int)).toNat = j := by
      rw [seqIndex_neg (by omega) h4] at h1
      rw [List.size_toArray, ← hl]
      exact Option.some.inj h1
    exact subscriptTail_builtinR (x := w) pl.isList.typeIs slot_list_getitem.lookup
      (wpAny_getItem_list_neg (Q := fun r s' => r = w ∧ EP X pins σ Q r s') pl.isList (by omega) (by rw [List.size_toArray] <;> omega) (by omega) (by rw [hj]; simpa using ew) ⟨rfl, fin⟩) hs
theorem ix_tup : IxR X (rIxT X.K) := by
  intro value slice pins s σ H x y v u Q I rx ry h hs
  obtain ⟨p, xs, i, z, rfl, rfl, hq, he, q⟩ := h
  cases rx
  obtain ⟨t, rfl⟩ := ry
  obtain ⟨its, r, pl, hz⟩ := I.tuple hq
  obtain ⟨j, h1, h2, h3, h4, h5⟩ := atI_get he
  obtain ⟨w, ew, rw'⟩ := r.get h2
  have hl := r.length
  have hn := line63
  have fin : EP X pins σ Q w s := ⟨z, H, I, rw', q⟩
  exact subscriptTail_builtinR (x := w) pl.typeIs slot_tuple_getitem.lookup
    (getItem_tuple (j := j) (Q := fun r s' => r = w ∧ EP X pins σ Q r s') pl (by omega) (by omega) (by rw [List.size_toArray, ← hl]; exact h1) (by simpa using ew) ⟨rfl, fin⟩) hs
theorem ix_str : IxR X rIxS := by
  intro value slice pins s σ H x y v u Q I rx ry h hs
  obtain ⟨z, i, c, rfl, rfl, hz, he, q⟩ := h
  obtain ⟨t, rfl⟩ := rx
  obtain ⟨t', rfl⟩ := ry
  obtain ⟨j, h1, h2, h3, h4, h5⟩ := atI_get he
  have hl : z.cps.toList.length = z.length := by simp [Str.length]
  rw [hl] at h1 h4 h5
  have hn := line63
  exact tail_any (typeIs_str s z t) slot_str_getitem.lookup (getItem_str (c := c) (by
    have e1 : decide (i < -(2 ^ 63 : Int)) = false := decide_eq_false (by omega)
    have e2 : decide (i ≥ 2 ^ 63) = false := decide_eq_false (by omega)
    rw [e1, e2, Bool.or_false]) (by rw [h1]; simpa using h2) ⟨.str ⟨#[c]⟩, H, I.tok _, ⟨_, rfl⟩, q⟩) hs
theorem mapSeq_set (its : List Value) (n j : Nat) (u : Value) : Obj.mapSeq (·.setIfInBounds j u) { cls := .type "list", data := .seq its.toArray n } = { cls := .type "list", data := .seq (its.set j u).toArray n } := by
  simp [Obj.mapSeq]
theorem Inv.lst {pins : List (Addr × Obj)} {σ : St} {H : Hp} {s : Shared} {p : Addr} {xs : List V} (I : Inv X pins σ H s) (h : H p = some (.lst xs)) :
    ∃ (its : List Value) (n : Nat), Vals xs its ∧ s.heap.get? p = some { cls := .type "list", data := .seq its.toArray n } ∧ xs.length ≤ sizeLine := by
  obtain ⟨z, its, n, r, e⟩ := I.hok p _ h
  exact ⟨its, n, r, e, z⟩
theorem Inv.lstUpd {pins : List (Addr × Obj)} {σ : St} {H : Hp} {s : Shared} {p : Addr} {xs ys : List V} {its its' : List Value} {n n' : Nat} {f : Obj → Obj} (I : Inv X pins σ H s) (h : H p = some (.lst xs))
    (ho : s.heap.get? p = some { cls := .type "list", data := .seq its.toArray n }) (hf : f { cls := .type "list", data := .seq its.toArray n } = { cls := .type "list", data := .seq its'.toArray n' }) (r : Vals ys its') (hz : ys.length ≤ sizeLine) (t : Nat) :
    Inv X pins σ (upd H p (.lst ys)) { s with heap := s.heap.update p f, toks := t } := by
  have e : (s.heap.update p f).get? p = some { cls := .type "list", data := .seq its'.toArray n' } := by
    rw [Heap.get?_update_self f ho (by rw [hf] <;> rfl), hf]
  refine I.write (x := p) (e := p) (by rw [h]; trivial) (.inl rfl) (fun b u hb q => (Heap.get?_update_other _ _ (Ne.symm hb)).trans q) ⟨_, e⟩ ?_
  exact ⟨hz, its', n', r, e⟩
def rSetL : V → V → V → Hp → (Hp → Prop) → Prop := fun o i v H Q => ∃ p xs k j, o = .ref p ∧ i = .int k ∧ H p = some (.lst xs) ∧ ixN xs.length k = some j ∧ Q (upd H p (.lst (xs.set j v)))
theorem set_list : PSet X rSetL := by
  intro pins s σ H o i v ov iv u Q I ro ri rv h
  obtain ⟨p, xs, k, j, rfl, rfl, hp, hj, q⟩ := h
  cases ro
  obtain ⟨t, rfl⟩ := ri
  obtain ⟨its, n, r, ho, hz⟩ := I.lst hp
  obtain ⟨h1, h2, h3, h4⟩ := ixN_seq hj
  have hl := r.length
  have hn := line63
  have I' : Inv X pins σ (upd H p (.lst (xs.set j v))) { s with heap := s.heap.update p (Obj.mapSeq (·.setIfInBounds j u)) } :=
    I.lstUpd hp ho (mapSeq_set its n j u) (r.set rv j) (by rw [List.length_set]; exact hz) s.toks
  by_cases h0 : 0 ≤ k
  · have hk : k.toNat = j := by
      rw [seqIndex_of h0 h4] at h1
      exact Option.some.inj h1
    exact PySem.W.ki_setAt ho h0 (by omega) (by rw [List.size_toArray, ← hl]; exact h4) (by rw [hk]; exact ⟨_, I', q⟩)
  · have hk : (k + (its.toArray.size : Int)).toNat = j := by
      rw [seqIndex_neg (by omega) h3] at h1
      rw [List.size_toArray, ← hl]
      exact Option.some.inj h1
    exact PySem.W.ki_setBack ho (by omega) (by rw [List.size_toArray, ← hl]; exact h3) (by omega) (by rw [hk]; exact ⟨_, I', q⟩)

def flatV : V → Bool
  | .non => true
  | .bl _ => true
  | .int _ => true
  | .str _ => true
  | _ => false
def eqV : V → V → Bool
  | .non, .non => true
  | .bl a, .bl b => a == b
  | .bl a, .int b => (if a then 1 else 0) == b
  | .int a, .bl b => a == (if b then 1 else 0)
  | .int a, .int b => a == b
  | .str a, .str b => a == b
  | _, _ => false
theorem eqAt_V {A : Around} {s : Shared} {y x : V} {u v : Value} (ry : RelV y u) (rx : RelV x v) (fy : flatV y = true) (fx : flatV x = true) : SeqAt.EqAt A s u v (eqV y x) := by
  cases y with
  | non =>
    cases ry
    cases x with
    | non => cases rx; exact SeqAt.EqAt.same _
    | bl b => cases rx; exact SeqAt.EqAt.none_bool b
    | int b => obtain ⟨t, rfl⟩ := rx; exact SeqAt.EqAt.none_int b t
    | str b => obtain ⟨t, rfl⟩ := rx; exact SeqAt.EqAt.none_str b t
    | _ => exact absurd (show false = true from fx) Bool.false_ne_true
  | bl a =>
    cases ry
    cases x with
    | non => cases rx; exact SeqAt.EqAt.bool_none a
    | bl b => cases rx; exact SeqAt.EqAt.bool_bool a b
    | int b => obtain ⟨t, rfl⟩ := rx; exact SeqAt.EqAt.bool_int a b t
    | str b => obtain ⟨t, rfl⟩ := rx; exact SeqAt.EqAt.bool_str a b t
    | _ => exact absurd (show false = true from fx) Bool.false_ne_true
  | int a =>
    obtain ⟨t', rfl⟩ := ry
    cases x with
    | non => cases rx; exact SeqAt.EqAt.int_none a t'
    | bl b => cases rx; exact SeqAt.EqAt.int_bool a t' b
    | int b => obtain ⟨t, rfl⟩ := rx; exact SeqAt.EqAt.int_int a t' b t
    | str b => obtain ⟨t, rfl⟩ := rx; exact SeqAt.EqAt.int_str a t' b t
    | _ => exact absurd (show false = true from fx) Bool.false_ne_true
  | str a =>
    obtain ⟨t', rfl⟩ := ry
    cases x with
    | non => cases rx; exact SeqAt.EqAt.str_none a t'
    | bl b => cases rx; exact SeqAt.EqAt.str_bool a t' b
    | int b => obtain ⟨t, rfl⟩ := rx; exact SeqAt.EqAt.str_int a t' b t
    | str b => obtain ⟨t, rfl⟩ := rx; exact SeqAt.EqAt.str_str a t' b t
    | _ => exact absurd (show false = true from fx) Bool.false_ne_true
  | _ => exact absurd (show false = true from fy) Bool.false_ne_true
def eqU (x : V) (u : Value) : Bool := match u with
  | .none => eqV .non x
  | .bool b => eqV (.bl b) x
  | .int i _ => eqV (.int i) x
  | .str z _ => eqV (.str z) x
  | _ => false
theorem eqU_of {x y : V} {u : Value} (r : RelV y u) (f : flatV y = true) : eqU x u = eqV y x := by
  cases y with
  | non => cases r; rfl
  | bl b => cases r; rfl
  | int i => obtain ⟨t, rfl⟩ := r; rfl
  | str z => obtain ⟨t, rfl⟩ := r; rfl
  | _ => exact absurd (show false = true from f) Bool.false_ne_true
theorem any_eqU {x : V} : ∀ {xs : List V} {us : List Value}, Vals xs us → xs.all flatV = true → us.any (eqU x) = xs.any fun y => eqV y x
  := by
  intro xs us h
  induction h with
  | nil => intro _; rfl
  | cons r t ih =>
    intro f
    rw [List.all_cons, Bool.and_eq_true] at f
    rw [List.any_cons, List.any_cons, eqU_of r f.1, ih f.2]
theorem mem_eqAt {A : Around} {s : Shared} {x : V} {v : Value} (rx : RelV x v) (fx : flatV x = true) : ∀ {xs : List V} {us : List Value}, Vals xs us → xs.all flatV = true → ∀ u ∈ us, SeqAt.EqAt A s u v (eqU x u)
  | _, _, .nil, _ => fun u hu => by cases hu
  | y :: xs, u :: us, .cons r t, f => fun u' hu => by
    rw [List.all_cons, Bool.and_eq_true] at f
    rcases List.mem_cons.mp hu with rfl | hu
    · rw [eqU_of r f.1]; exact eqAt_V r rx f.1 fx
    · exact mem_eqAt rx fx t f.2 u' hu
def inV (x : V) (xs : List V) : Bool := xs.any fun y => eqV y x
def rIn (K : PySem.W.Frag) (neg : Bool) : R2 := fun x y H Q => ∃ p xs, y = .ref p ∧ (SqL K H p xs ∨ SqT K H p xs) ∧ flatV x = true ∧ xs.all flatV = true ∧ Q (.bl (if neg then !inV x xs else inV x xs)) H
theorem op_in_seq : OpR X (compareOp .In) (rIn X.K false) := by
  intro pins s σ H x y v u Q I rx ry h
  obtain ⟨p, xs, rfl, hq, fx, fs, q⟩ := h
  cases ry
  rcases hq with hq | hq
  · obtain ⟨its, r, pl, hz⟩ := I.list hq
    refine SeqAt.in_listAt (eqU x) pl.isList (fun w hw => mem_eqAt rx fx r fs w (by simpa using hw)) ⟨.bl _, H, I, rfl, ?_⟩
    rw [show its.toArray.any (eqU x) = its.any (eqU x) by simp, any_eqU r fs]
    exact q
  · obtain ⟨its, r, pl, hz⟩ := I.tuple hq
    refine SeqAt.in_tupleAt (eqU x) pl (fun w hw => mem_eqAt rx fx r fs w (by simpa using hw)) ⟨.bl _, H, I, rfl, ?_⟩
    rw [show its.toArray.any (eqU x) = its.any (eqU x) by simp, any_eqU r fs]
    exact q
theorem call_len_seq : CallR X (.builtin "len") (fun xs H Q => ∃ p ys, xs = [.ref p] ∧ (SqL X.K H p ys ∨ SqT X.K H p ys) ∧ Q (.int ys.length) H) := by
  intro pins s σ H xs us Q I r h
  obtain ⟨p, ys, rfl, hq, q⟩ := h
  obtain ⟨u, rfl, rx⟩ := vals1 r
  cases rx
  have hn := line63
  rcases hq with hq | hq
  · obtain ⟨its, r', pl, hz⟩ := I.list hq
    have hlen := r'.length
    exact Calls.call_len_list pl.isList (by simp only [List.size_toArray] <;> omega) ⟨.int ys.length, H, I.tok _, ⟨s.toks + 1, by rw [List.size_toArray, hlen]⟩, q⟩
  · obtain ⟨its, r', pl, hz⟩ := I.tuple hq
    have hlen := r'.length
    exact len_tuple pl (by simp only [List.size_toArray] <;> omega) ⟨.int ys.length, H, I.tok _, ⟨s.toks + 1, by rw [List.size_toArray, hlen]⟩, q⟩
theorem call_len_str : CallR X (.builtin "len") (fun xs H Q => ∃ z, xs = [.str z] ∧ z.length ≤ sizeLine ∧ Q (.int z.length) H) := by
  intro pins s σ H xs us Q I r h
  obtain ⟨z, rfl, hz, q⟩ := h
  obtain ⟨u, rfl, t, rfl⟩ := vals1 r
  have hn := line63
  exact len_str (by omega) ⟨.int z.length, H, I.tok _, ⟨_, rfl⟩, q⟩
theorem call_list_of : CallR X (.type "list") (fun xs H Q => ∃ p ys, xs = [.ref p] ∧ (SqL X.K H p ys ∨ SqT X.K H p ys) ∧ ∀ l, H l = none → Q (.ref l) (upd H l (.lst ys))) := by
  intro pins s σ H xs us Q I r h
  obtain ⟨p, ys, rfl, hq, q⟩ := h
  obtain ⟨u, rfl, rx⟩ := vals1 r
  cases rx
  have fin : ∀ (its : List Value), Vals ys its → ys.length ≤ sizeLine → ∀ (h' : Heap) (c' : Nat), (∀ b o', s.heap.get? b = some o' → h'.get? b = some o') →
      h'.get? s.heap.objs.size = some { cls := .type "list", dict := none, data := .seq its.toArray c', slots := #[] } → EP X pins σ Q (.ref s.heap.objs.size) { s with heap := h' } := fun its r' hz h' c' kp e =>
    ⟨.ref s.heap.objs.size, _, I.laid (t' := s.toks) kp (Nat.le_refl _) (show ObjOk X.prog X.w _ h' _ (.lst ys) from ⟨hz, its, c', r', e⟩), rfl, q _ (I.hok.fresh (Nat.le_refl _))⟩
  rcases hq with hq | hq
  · obtain ⟨its, r', pl, hz⟩ := I.list hq
    have hlen := r'.length
    obtain ⟨o, ho, hc, n, hd⟩ := pl.isList
    exact call_list_seq p (.inl rfl) ho hc hd (fun h' c' kp e => fin its r' hz h' c' kp e) (by simp only [List.size_toArray] <;> omega)
  · obtain ⟨its, r', pl, hz⟩ := I.tuple hq
    have hlen := r'.length
    obtain ⟨o, ho, hc, n, hd⟩ := pl
    exact call_list_seq p (.inr rfl) ho hc hd (fun h' c' kp e => fin its r' hz h' c' kp e) (by simp only [List.size_toArray] <;> omega)
theorem call_tuple_of : CallR X (.type "tuple") (fun xs H Q => ∃ p ys, xs = [.ref p] ∧ ((SqL X.K H p ys ∧ ∀ l, H l = none → Q (.ref l) (upd H l (.tup ys))) ∨ (SqT X.K H p ys ∧ Q (.ref p) H))) := by
  intro pins s σ H xs us Q I r h
  obtain ⟨p, ys, rfl, h⟩ := h
  obtain ⟨u, rfl, rx⟩ := vals1 r
  cases rx
  rcases h with ⟨hq, q⟩ | ⟨hq, q⟩
  · obtain ⟨its, r', pl, hz⟩ := I.list hq
    have hlen := r'.length
    refine call_tuple_list pl.isList (fun h' kp => ?_) (by simp only [List.size_toArray] <;> omega)
    have I1 : Inv X pins σ H { s with heap := h' } := I.kept (t' := s.toks) kp
    have I2 : Inv X pins σ (upd H h'.objs.size (.tup ys)) { s with heap := h'.push { cls := .type "tuple", data := .seq its.toArray } } :=
      I1.laid (t' := s.toks) (fun b o e => Heap.get?_push_of_some _ e) (Nat.le_refl _) (show ObjOk X.prog X.w _ _ _ (.tup ys) from ⟨hz, its, 0, r', Heap.get?_push_size _ rfl⟩)
    exact ⟨.ref h'.objs.size, _, I2, rfl, q _ (I1.hok.fresh (Nat.le_refl _))⟩
  · obtain ⟨its, r', pl, hz⟩ := I.tuple hq
    exact call_tuple_same pl ⟨.ref p, H, I, rfl, q⟩

def tyV (K : PySem.W.Frag) (T : String) (x : V) (H : Hp) : Prop := match x with
  | .str _ => T = "str"
  | .int _ => T = "int"
  | .ref p => (T = "list" ∧ ∃ xs, SqL K H p xs) ∨ (T = "tuple" ∧ ∃ xs, SqT K H p xs) ∨
      (T = "dict" ∧ ((∃ kvs, H p = some (.dK kvs)) ∨ ∃ kvs, H p = some (.dT kvs))) ∨ (T = "set" ∧ ∃ S n, H p = some (.set S n))
  | _ => False
theorem tyV_is {pins : List (Addr × Obj)} {σ : St} {H : Hp} {s : Shared} {T : String} {x : V} {v : Value} (I : Inv X pins σ H s) (r : RelV x v) (ty : tyV X.K T x H) :
    s.TypeIs v T ∧ ∀ a, v = .ref a → ∃ ob, s.heap.get? a = some ob ∧ ob.dict = none := by
  cases x with
  | str z =>
    obtain ⟨t, rfl⟩ := r
    cases (show T = "str" from ty)
    exact ⟨typeIs_str s z t, fun _ e => nomatch e⟩
  | int i =>
    obtain ⟨t, rfl⟩ := r
    cases (show T = "int" from ty)
    exact ⟨typeIs_int s i t, fun _ e => nomatch e⟩
  | ref p =>
    cases r
    rcases ty with ⟨rfl, xs, hq⟩ | ⟨rfl, xs, hq⟩ | ⟨rfl, hk⟩ | ⟨rfl, S, n, hk⟩
    · obtain ⟨its, _, pl, _⟩ := I.list hq
      refine ⟨pl.isList.typeIs, fun a e => ?_⟩
      cases e
      obtain ⟨o, n, e, c, hd, _⟩ := pl
      exact ⟨o, e, hd⟩
    · obtain ⟨o, e, hc, hd⟩ : ∃ o, s.heap.get? p = some o ∧ o.cls = .type "tuple" ∧ o.dict = none := by
        rcases hq with hq | ⟨o, _, _, hk, hc, hd, _⟩
        · obtain ⟨_, its, n, _, e⟩ := hq.ok I.hok
          exact ⟨_, e, rfl, rfl⟩
        · exact ⟨o, I.kIn p o hk, hc, hd⟩
      refine ⟨⟨o, e, hc⟩, fun a e2 => ?_⟩
      cases e2
      exact ⟨o, e, hd⟩
    · have z : ∃ o, s.heap.get? p = some o ∧ o.ExactDict := by
        rcases hk with ⟨kvs, hk⟩ | ⟨kvs, hk⟩
        · obtain ⟨_, _, _, _, o, _, _, e, ex, _⟩ := I.hok p _ hk
          exact ⟨o, e, ex⟩
        · obtain ⟨_, _, _, _, o, _, _, e, ex, _⟩ := I.hok p _ hk
          exact ⟨o, e, ex⟩
      obtain ⟨o, e, ex⟩ := z
      refine ⟨⟨o, e, ex.1⟩, fun a e2 => ?_⟩
      cases e2
      exact ⟨o, e, ex.2.1⟩
    · obtain ⟨o, _, _, _, e, ex, _⟩ := I.hok p _ hk
      refine ⟨⟨o, e, ex.1⟩, fun a e2 => ?_⟩
      cases e2
      exact ⟨o, e, ex.2.1⟩
  | _ => exact False.elim ty
def tBM (K : PySem.W.Frag) (T : String) (r : V → List V → Hp → VK → Prop) (to : TE) (t : TA) : TE := fun σ H Q => to σ H fun x H1 => tyV K T x H1 ∧ t σ H1 fun xs H2 => r x xs H2 Q
variable {o e : Expr} {es : List Expr} {to : TE} {t : TA} {name : Str} {apos cpos : Pos} {T id : String} {r : V → List V → Hp → VK → Prop}
theorem pe_bm (pa : PlainAttrs T) (slot : Slot T name id) (hty : typeOf (.builtin id) = pure (.type "method_descriptor")) (hm : MtR X id r) (ho : PE X o to) (ha : PA X (e :: es) t)
    (hbase : attributeBase o name X.env (eval o X.env) = eval o X.env := by rfl)
    (hfew : ((backTo cpos (starEach (e :: es) X.env)).all (fun x => !x.1) && (backToKw cpos (keywordEach [] X.env)).all (fun x => x.1.isSome)
      && decide ((e :: es).length + ([] : List Keyword).length + (if ([] : List Keyword).isEmpty then 0 else 1) < 30)) = true := by rfl)
    (hline : (apos.endLine == cpos.line) = true := by rfl) (hs : starEach (e :: es) X.env = (false, eval e X.env) :: starEach es X.env := by rfl) (hplain : (backTo cpos (starEach es X.env)).any (·.1) = false := by rfl) :
    PE X (.Call (.Attribute o name apos) (e :: es) [] cpos) (tBM X.K T r to t) := by
  intro pins s σ H Q I h
  refine wpAny_Call_method_late hbase hfew hline rfl (thn (ho pins s σ H _ I h) fun v s1 hx9 => ?_)
  obtain ⟨x, H1, I1, r1, ty, q1⟩ := hx9
  obtain ⟨h1, h2⟩ := tyV_is I1 r1 ty
  refine ⟨T, id, pa, slot, hty, h1, h2, ?_⟩
  have hA := ha cpos pins s1 σ H1 _ I1 q1
  rw [hs] at hA ⊢
  refine Calls.callWith_builtin (by show (false || (backTo cpos (starEach es X.env)).any (·.1)) = false; rw [hplain] <;> rfl) (Calls.evalArgs_plain ?_)
  refine thn hA fun us s2 hx9 => ?_
  obtain ⟨vs, H2, I2, r2, q2⟩ := hx9
  exact hm pins s2 σ H2 x vs v us Q I2 r1 r2 q2
/- xs.append(e), list.index on a module's tuple .. are MtR facts of 06m -/
end
end L2

namespace L2
open PySem PySem.Spec PyProof.Rows

theorem Vals.one {x : V} {us : List Value} (r : Vals [x] us) : ∃ u, us = [u] ∧ RelV x u := vals1 r
theorem Vals.two {x y : V} {us : List Value} (r : Vals [x, y] us) : ∃ u v, us = [u, v] ∧ RelV x u ∧ RelV y v := vals2 r
theorem Vals.zero : ∀ {us : List Value}, Vals [] us → us = []
  | _, .nil => rfl
theorem Vals.reverse {xs : List V} {us : List Value} (h : Vals xs us) : Vals xs.reverse us.reverse := by
  induction h with
  | nil => exact .nil
  | cons r t ih => rw [List.reverse_cons, List.reverse_cons]; exact Vals.append ih (.cons r .nil)
section
variable {X : Cx} {pins : List (Addr × Obj)} {σ : St} {H : Hp} {s : Shared} {l b : Addr} {xs ys zs : List V}

theorem Inv.lnew {its : List Value} {t' : Nat} (I : Inv X pins σ H s) (hv : Vals ys its) (hz : ys.length ≤ sizeLine) :
    Inv X pins σ (upd H s.heap.objs.size (.lst ys)) { s with heap := s.heap.push { cls := .type "list", data := .seq its.toArray }, toks := t' } :=
  I.laid (fun _ _ q => Heap.get?_push_of_some _ q) (Nat.le_refl _) ⟨hz, its, 0, hv, Heap.get?_push_size _ rfl⟩
theorem Inv.fresh (I : Inv X pins σ H s) : H s.heap.objs.size = none := I.hok.fresh (Nat.le_refl _)
theorem Inv.lstM (I : Inv X pins σ H s) (hH : H l = some (.lst xs)) : xs.length ≤ sizeLine ∧ ∃ (its : List Value) (n : Nat), Vals xs its ∧ xs.length = its.length ∧ s.heap.get? l = some { cls := .type "list", data := .seq its.toArray n } := by
  obtain ⟨z, its, n, r, e⟩ := I.hok l _ hH
  exact ⟨z, its, n, r, r.length, e⟩

end

section
variable {X : Cx}

def rCat : R2 := fun x y H Q => ∃ l b xs zs, x = .ref l ∧ y = .ref b ∧ H l = some (.lst xs) ∧ H b = some (.lst zs) ∧ xs.length + zs.length ≤ sizeLine ∧ ∀ p, H p = none → Q (.ref p) (upd H p (.lst (xs ++ zs)))
theorem op_cat : OpR X (binaryOp .Add) rCat := by
  intro pins s σ H x y v u Q I rx ry h
  obtain ⟨l, b, xs, zs, rfl, rfl, hH, hB, hz, q⟩ := h
  cases rx
  cases ry
  obtain ⟨z, its, n, r, hl, e⟩ := I.lstM hH
  obtain ⟨z2, its2, n2, r2, hl2, e2⟩ := I.lstM hB
  refine PySem.P.add_list e e2 ?_ (by rw [List.size_toArray, List.size_toArray]; omega)
  have ea : its.toArray ++ its2.toArray = (its ++ its2).toArray := by simp
  rw [ea]
  exact ⟨.ref _, _, I.lnew (t' := s.toks) (r.append r2) (by rw [List.length_append]; omega), rfl, q _ I.fresh⟩
end

section
variable {prog : Program} {w : World} {A : Around} {E : Value → Shared → Prop} {s : Shared}
end

section
variable {X : Cx}
end
end L2

namespace Att
open PySem PySem.W PySem.Calls PyProof.Rows

theorem ints_of_wellAll {P : Params} {h : Heap} : ∀ (ns : List Int) (vs : List Value), WellAll P h vs (ns.map WData.int) → IntsAre vs ns := by
  intro ns
  induction ns with
  | nil =>
    intro vs w
    rw [List.map_nil] at w
    cases w
    exact .nil
  | cons n ns ih =>
    intro vs w
    rw [List.map_cons] at w
    cases w with
    | cons a b =>
      cases a
      exact .cons _ _ (ih _ b)

theorem script_of {l : OpenLaw} {n : Nat} (hn : l.most = some n) {P : Params} {h : Heap} {args : List WData} {vals : List Value}
    (hpre : l.row.toRowW.claim.pre args = true) (hwl : WellAll P h vals args) :
    ∃ a vs ns, vals = [Value.ref a] ∧ args = [WData.list (ns.map WData.int)] ∧ h.get? a = some { cls := .type "list", data := .seq vs.toArray } ∧ IntsAre vs ns ∧ ns.length ≤ n := by
  have hsh : WShape.hasAll [] args [.list .int] = true := (pre_splitW hpre).1
  have hc : l.pre.holds [] { args := args } = true := (pre_splitW hpre).2
  obtain ⟨d, r, rfl, h1, h2⟩ := hasAllW_cons hsh
  obtain rfl := hasAllW_nil h2
  obtain ⟨xs, rfl, h3⟩ := hasW_list h1
  obtain ⟨ns, rfl⟩ := items_int h3
  have hlen : ns.length ≤ n := by
    unfold OpenLaw.pre at hc
    have h4 : (WTm.not (.lt (.lit (.int (n : Int))) (.len (.arg 0)))).holds [] { args := [.list (ns.map .int)] } = true := by
      have h4 := (holds_andW hc).1
      rw [hn] at h4
      exact h4
    have h5 := condW_of h4 (w_not (w_lt w_lit (w_len_list (w_arg rfl))))
    rw [List.length_map] at h5
    refine Nat.le_of_not_lt fun q => ?_
    have q' : (n : Int) < ((ns.length : Nat) : Int) := by omega
    first
      | (rw [decide_eq_true q'] at h5; exact absurd h5 (by decide))
      | (simp at h5; omega)
  cases hwl with
  | cons w1 w2 =>
    cases w2
    cases w1 with
    | list ho hall => exact ⟨_, _, ns, rfl, rfl, ho, ints_of_wellAll ns _ hall, hlen⟩

theorem post_true (l : OpenLaw) (args : List WData) : l.row.toRowW.claim.post args (.bool true) args = true :=
  postW_of (r := l.row.toRowW) (X := (true == true))
    (show WShape.has [] (.bool true) .bool = true by first | rfl | decide | simp [WShape.has, WShape.arms, WShape.armsAll])
    (show (WTm.eq .res (.lit (.bool true))).value [] { args := args, res := some (.bool true), after := args } = some (.bool (true == true)) from w_eq_bool (w_res rfl) w_lit) rfl

theorem attach_call {l : OpenLaw} {n : Nat} {q : Program} {loose : List Str} {XP : (Str → Option Value) → Heap → Prop} {YP : World → Heap → Prop} {d : DefRec}
    (hn : l.most = some n) (hdf : d.params.defaults = [])
    (call : ∀ (w : World) (s₀ s₁ : Shared) (mg mb : Str → Option Value) (fa : Addr) (o : Obj) (pm cd doc : Value) (a : Addr) (vs : List Value) (ns : List Int),
      Ground q loose [] XP w s₀ mg mb s₁.heap → YP w s₁.heap →
      s₁.heap.get? fa = some o → o.data = .func (docDef d.name d.params d.body d.scope pm cd doc) → s₁.heap.CodeRec cd d.name → mg d.name = some (.ref fa) →
      s₁.heap.get? a = some { cls := .type "list", data := .seq vs.toArray } → IntsAre vs ns → ns.length ≤ n → s₁.gens = #[] →
      codeAny (model l.prog w) callerA (.call (.ref fa) ⟨[.ref a], []⟩) (fun r s' => r = .ok (.ret (.bool true)) ∧ OldK s₁.heap s'.heap ∧ s'.os = s₁.os ∧ AllBare s'.gens) s₁) :
    WalkO q loose XP YP l.row.toRowW d [] (fun f vs => PySem.call f vs) := by
  intro w s₀ s₁ mg mb G Y fa o pm cd doc dV kV ho hd hcd hD hmg hg args vals as hpre hlay hrd hwl hlo
  obtain rfl : dV = .none := Dflts.none hD hdf
  obtain rfl : kV = .none := Dflts.noKw hD
  obtain ⟨a, vs, ns, rfl, rfl, hobj, hints, hlen⟩ := script_of hn hpre hwl
  refine enter_call (codeAny_mono (call w s₀ s₁ mg mb fa o pm cd doc a vs ns G Y ho (fd_plain hd) hcd hmg hobj hints hlen hg) fun r s' hq => ?_)
  obtain ⟨rfl, h2, h3, h4⟩ := hq
  exact ⟨.inl ⟨.bool true, .bool true, [], rfl, fun _ => rfl, .bool true, post_true l _, fun _ => ⟨List.Pairwise.nil, fun _ hm => (nomatch hm)⟩⟩, h2, h3, h4⟩

section
variable {prog : Program} {w : World} {A : Around} {E : Value → Shared → Prop} {s : Shared} {K : Frag}

end
end Att

namespace L2
open PySem PySem.Spec PyProof.Rows

theorem vals_ints : ∀ {vs : List Value} {ns : List Int}, IntsAre vs ns → Vals (ns.map V.int) vs
  := by
  intro vs ns h
  induction h with
  | nil => exact .nil
  | cons n t h ih => exact .cons ⟨t, rfl⟩ ih

def Only (H : Hp) : Prop := ∀ b, H b = none ∨ ∃ o xs, H b = some (.frz o (.lst xs))

theorem law_call {P : Program} {w : World} {K : PySem.W.Frag} {mg mb : Str → Option Value} {CX : CXT} {k : Nat} {fa a : Addr} {fd : FuncData} {x : Str} {sp : Sp} {s₁ : Shared} {vs : List Value} {ns : List Int}
    (KX : K.In s₁.heap) (hns : s₁.heap.Ns mainGlobals mg) (hb : s₁.heap.Ns builtinsNs mb) (hbb : ∀ x : Str, x ≠ "__name__" → mb x = bootBuiltins x) (hlim : s₁.heap.NoLimit) (hmod : ∃ mm, s₁.heap.Ns sysModules mm) (hg : s₁.gens = #[])
    (ha : s₁.heap.get? a = some { cls := .type "list", data := .seq vs.toArray }) (hi : IntsAre vs ns) (hl : ns.length ≤ sizeLine) (hr : Room k callerA)
    (F : ∀ base : Heap, K.In base → base.Ns mainGlobals mg → FnOk P w K mg base CX k fa fd [x] sp) (hbind : ∀ (s : Shared) (u : Value), BindsTo s fd ⟨[u], []⟩ [(x, u)])
    (hsp : ∀ H : Hp, Only H → SqL K H a (ns.map V.int) → sp [.ref a] H (fun v _ => v = .bl true) fun _ _ _ => False)
    (hCX : ∀ H e s', CX [] H s₁ (fun _ _ _ => False) e s' → False) :
    codeAny (model P w) callerA (.call (.ref fa) ⟨[.ref a], []⟩) (fun r s' => r = .ok (.ret (.bool true)) ∧ OldK s₁.heap s'.heap ∧ s'.os = s₁.os ∧ AllBare s'.gens) s₁ := by
  have rv := vals_ints hi
  have lenV := hi.length
  -- from an abstract heap in which nothing but the script may be tracked
  have core : ∀ H : Hp, Only H → SqL K H a (ns.map V.int) → HOk P w H s₁.heap → (∀ b, H b ≠ none → b = a) → (H a ≠ none → K.lookup a = none) →
      codeAny (model P w) callerA (.call (.ref fa) ⟨[.ref a], []⟩) (fun r s' => r = .ok (.ret (.bool true)) ∧ OldK s₁.heap s'.heap ∧ s'.os = s₁.os ∧ AllBare s'.gens) s₁ := by
    intro H hO hS hok hA hK
    have base_of : ∀ {b : Addr} {o : Obj}, s₁.heap.get? b = some o → H b = none → (hidT s₁.heap H).get? b = some o := fun e n => hidT_get e n
    have noA : ∀ {b : Addr} {o : Obj} {es : Array DictEntry} {ep : Nat}, s₁.heap.get? b = some o → o.data = .dict es ep → H b = none := fun {b o es ep} e d => by
      cases q : H b with
      | none => rfl
      | some u =>
        have e' : b = a := hA b (by rw [q]; simp)
        subst e'
        rw [ha] at e; cases e
        have d' : Data.seq vs.toArray _ = Data.dict es ep := d
        cases d'
    have nsK : ∀ {b : Addr} {m : Str → Option Value}, s₁.heap.Ns b m → (hidT s₁.heap H).Ns b m := fun {b m} ⟨o, es, ep, e, d, r⟩ => ⟨o, es, ep, base_of e (noA e d), d, r⟩
    have hKb : K.In (hidT s₁.heap H) := fun b o e => base_of (KX b o e) (by
      cases q : H b with
      | none => rfl
      | some u =>
        have e' : b = a := hA b (by rw [q]; simp)
        subst e'
        rw [hK (by rw [q]; simp)] at e; cases e)
    have hM : Mod K mg (hidT s₁.heap H) := ⟨hKb, nsK hns, ⟨mb, nsK hb, hbb⟩, let ⟨mc, h1, h2⟩ := hlim; ⟨mc, nsK h1, h2⟩, let ⟨mm, h1⟩ := hmod; ⟨mm, nsK h1⟩⟩
    have e0 : Env0 P w K mg (hidT s₁.heap H) callerA [] s₁ H := ⟨rfl, hM, fun b o e => of_hidT e, Nat.le_of_eq (hidT_size _ _), trivial, fun b hb => absurd (show b ∈ ([] : List Addr) from hb) (by simp), hok, .of_eq hg⟩
    refine codeAny_mono ((F _ hKb (nsK hns)).run callerA [] s₁ H ⟨[.ref a], []⟩ [.ref a] [.ref a] _ _ hr e0 (hbind s₁ (.ref a)) (.cons rfl .nil) (hsp H hO hS)) fun r s' h => ?_
    cases r with
    | error e => exact (hCX H e s' h).elim
    | ok fl =>
      cases fl with
      | next => exact False.elim h
      | brk => exact False.elim h
      | cont => exact False.elim h
      | ret u =>
        obtain ⟨v, H', os, bare, un, hok', r', q⟩ := h
        have q' : v = .bl true := q
        subst q'
        obtain rfl : u = Value.bool true := r'
        refine ⟨rfl, OldK.of_keep fun b o e => ?_, os, bare⟩
        cases q : H b with
        | none => exact un.keep b o e q (by intro z; exact absurd (show b ∈ ([] : List Addr) from z) (by simp)) (by simp)
        | some u =>
          rcases hO b with z | ⟨ob, xs, z⟩
          · rw [q] at z; cases z
          · have z2 := un.frzs b ob _ z
            obtain ⟨e1, _⟩ := hok b _ z
            obtain ⟨e2, _⟩ := hok' b _ z2
            rw [e] at e1; cases e1
            exact e2
  cases hk : K.lookup a with
  | some o =>
    -- the script is one of the module's own objects
    have e := KX a o hk
    rw [ha] at e
    cases e
    refine core (fun _ => none) (fun _ => .inl rfl) (.inr ⟨_, vs.toArray, _, hk, rfl, rfl, rfl, by rw [List.size_toArray, lenV]; exact hl, by simpa using rv⟩) (fun b u z => by have z' : (none : Option HO) = some u := z; cases z') (fun b z => absurd rfl z) fun z => absurd rfl z
  | none =>
    refine core (fun b => if b = a then some (.frz { cls := .type "list", data := .seq vs.toArray } (.lst (ns.map V.int))) else none) (fun b => ?_) (.inl (.inr ⟨{ cls := .type "list", data := .seq vs.toArray }, if_pos rfl⟩)) (fun b u z => ?_) (fun b z => ?_) fun _ => hk
    · by_cases hb : b = a
      · exact .inr ⟨_, _, if_pos hb⟩
      · exact .inl (if_neg hb)
    · by_cases hb : b = a
      · have z' := (if_pos hb).symm.trans z
        cases z'
        subst hb
        exact ⟨ha, by rw [List.length_map]; exact hl, vs, _, rv, ha⟩
      · have z' := (if_neg hb).symm.trans z
        cases z'
    · by_cases hb : b = a
      · exact hb
      · exact absurd (if_neg hb) z
end L2

namespace L2
open PySem PySem.Spec PyProof.Rows

theorem walk_of {l : PySem.W.OpenLaw} {n k : Nat} {q : Program} {loose : List Str} {XP : (Str → Option Value) → Heap → Prop} {YP : World → Heap → Prop} {d : DefRec} {K : Params → PySem.W.Frag} {CX : World → CXT} {sp : World → Sp} {x : Str}
    (hn : l.most = some n) (hn2 : n ≤ sizeLine) (hdf : d.params.defaults = []) (hr : Room k callerA) (hq : importsNone q = true)
    (hY : ∀ (w : World) (h : Heap), YP w h → (K w.params).In h)
    (F : ∀ (w : World) (mg : Str → Option Value) (fa : Addr) (h : Heap), (K w.params).In h → h.Ns mainGlobals mg → mg d.name = some (.ref fa) →
      ∃ fd : FuncData, (∀ (s : Shared) (u : Value), BindsTo s fd ⟨[u], []⟩ [(x, u)]) ∧
        ∀ base : Heap, (K w.params).In base → base.Ns mainGlobals mg → FnOk l.prog w (K w.params) mg base (CX w) k fa fd [x] (sp w))
    (hsp : ∀ (w : World) (H : Hp) (a : Addr) (ns : List Int), ns.length ≤ n → Only H → SqL (K w.params) H a (ns.map V.int) → sp w [.ref a] H (fun v _ => v = .bl true) fun _ _ _ => False)
    (hCX : ∀ (w : World) (H : Hp) (s : Shared) (e : Value) (s' : Shared), CX w [] H s (fun _ _ _ => False) e s' → False) :
    PySem.W.WalkO q loose XP YP l.row.toRowW d [] (fun f vs => PySem.call f vs) := by
  refine Att.attach_call hn hdf fun w s₀ s₁ mg mb fa o pm cd doc a vs ns G Y ho hd hcd hmg hobj hints hlen hg => ?_
  have KX := hY w _ Y
  obtain ⟨fd, hb, hF⟩ := F w mg fa _ KX G.T.g hmg
  exact law_call KX G.T.g G.T.b G.T.builtins G.T.nolimit (let ⟨mm, h1, _⟩ := (G.T.seer hq).mods; ⟨mm, h1⟩) hg hobj hints (Nat.le_trans hlen hn2) hr hF hb (fun H hO hS => hsp w H a ns hlen hO hS) fun H e s' => hCX w H s₁ e s'
end L2

namespace L2
open PySem PySem.Spec PyProof.Rows

def defArgs (s : Stmt) : Arguments := match s with
  | .FunctionDef _ a _ _ _ _ _ _ _ _ => a
  | _ => { posonlyargs := [], args := [], vararg := none, kwonlyargs := [], kw_defaults := [], kwarg := none, defaults := [] }
def defBody (s : Stmt) : List Stmt := match s with
  | .FunctionDef _ _ b _ _ _ _ _ _ _ => b
  | _ => []
def defScope (s : Stmt) : Scope := match s with
  | .FunctionDef _ _ _ _ _ _ sc _ _ _ => sc
  | _ => { kind := .function, names := [], isGenerator := false, isCoroutine := false }

abbrev CX0 : CXT := fun _ _ _ _ _ _ => False
abbrev E0 : XK := fun _ _ _ => False
theorem pass0 {X : Cx} : Passes CX0 X E0 := fun _ _ _ _ _ _ _ h => h.elim

structure Fun (K : PySem.W.Frag) (x qual : Str) (st : Stmt) (f : Addr) (fd : FuncData) : Prop where
  ex : ∃ (oc : Value) (od : Option Addr) (kV doc pm : Value) (an : Option Addr) (cdv ct : Value) (osl : Array (Option Value)),
    fd = PySem.W.fnOf x qual (defArgs st) (defBody st) (defScope st) .none kV doc pm an cdv ct ∧ K.lookup f = some ⟨oc, od, .func fd, osl⟩ ∧ PySem.W.codeIn K cdv qual = true
  kp : PySem.W.keepIn K (.ref f) = true
section
variable {P : Program} {w : World} {K : PySem.W.Frag} {mg : Str → Option Value} {base : Heap}
theorem Fun.ok {x qual : Str} {st : Stmt} {f : Addr} {fd : FuncData} {N ps : List Str} {k : Nat} {sp : Sp} (F : Fun K x qual st f fd) (S : FnScope N ps (defScope st)) (len : ∀ vs H Q E, sp vs H Q E → vs.length = ps.length)
    (hbody : ∀ (cdv : Value) (A : Around) (outer : List Env) (s : Shared) (H : Hp) (vs : List V) (Q : VK) (E : XK), Room k (A.deeper (envOfC qual (defScope st) s.heap.objs.size f cdv)) → sp vs H Q E →
      ∃ t, PSs (cxOf CX0 P w K mg base N qual (defScope st) f cdv A outer s H E).nox (defBody st) t ∧ t { nx := fun _ H' => Q .non H', rt := Q } (start N vs) H) : FnOk P w K mg base CX0 (k + 1) f fd ps sp := by
  obtain ⟨oc, od, kV, doc, pm, an, cdv, ct, osl, rfl, lk, hcd⟩ := F.ex
  refine fn_of lk hcd S len fun A outer s H vs Q E hr hsp => ?_
  obtain ⟨t, h, q⟩ := hbody cdv A outer s H vs Q E hr hsp
  exact ⟨t, h.nox, q⟩
theorem Fun.binds {x qual : Str} {st : Stmt} {f : Addr} {fd : FuncData} {ps : List Str} (F : Fun K x qual st f fd)
    (h : ∀ (kV doc pm : Value) (an : Option Addr) (cdv ct : Value) (us : List Value), us.length = ps.length → bindArgs (PySem.W.fnOf x qual (defArgs st) (defBody st) (defScope st) .none kV doc pm an cdv ct) ⟨us, []⟩ = pure (ps.zip us)) : Binds K fd ps [] := by
  obtain ⟨oc, od, kV, doc, pm, an, cdv, ct, osl, rfl, lk, hcd⟩ := F.ex
  exact .all (h kV doc pm an cdv ct)
theorem fun_mk {x qual : Str} {st : Stmt} {f : Addr} {oc : Value} {od an : Option Addr} {osl : Array (Option Value)} {kV doc pm cdv ct : Value} (l : K.lookup f = some ⟨oc, od, .func (PySem.W.fnOf x qual (defArgs st) (defBody st) (defScope st) .none kV doc pm an cdv ct), osl⟩)
    (c : PySem.W.codeIn K cdv qual = true) (k : PySem.W.keepIn K (.ref f) = true) : Fun K x qual st f (PySem.W.fnOf x qual (defArgs st) (defBody st) (defScope st) .none kV doc pm an cdv ct) := ⟨⟨oc, od, kV, doc, pm, an, cdv, ct, osl, rfl, l, c⟩, k⟩
end
section
variable {X : Cx}
theorem pv (i : Nat) {x : Str} {pos : Pos} (hN : X.N[i]? = some x := by rfl) (hv : Vis X.env.scope x := by first | exact Or.inl rfl | exact Or.inr (Or.inl rfl) | exact Or.inr (Or.inr rfl)) (hd : (x == ("__debug__" : Str)) = false := by decide)
    (hcd : (x == ("__classdict__" : Str)) = false := by decide) : PE X (.Name x pos) (tVar i) := pe_var hN hv hd hcd
end

theorem iteF {A B : Prop} (h : B) : if false = true then A else B := by
  rw [if_neg Bool.false_ne_true]
  exact h
theorem iteT {A B : Prop} (h : A) : if true = true then A else B := by
  rw [if_pos rfl]
  exact h
theorem ite2 {c A B : Prop} [Decidable c] (h1 : c → A) (h2 : ¬ c → B) : if c then A else B := by
  by_cases h : c
  · rw [if_pos h]
    exact h1 h
  · rw [if_neg h]
    exact h2 h
def Same (H H' : Hp) : Prop := ∀ b o, H b = some o → H' b = some o
theorem Same.refl (H : Hp) : Same H H := fun _ _ h => h
theorem Same.trans {H H1 H2 : Hp} (a : Same H H1) (b : Same H1 H2) : Same H H2 := fun c o h => b c o (a c o h)
theorem Same.free {H H' : Hp} (e : Same H H') {l : Addr} (h : H' l = Option.none) : H l = Option.none := by
  cases q : H l with
  | none => rfl
  | some o =>
    rw [e l o q] at h
    cases h
theorem Same.seq {K : PySem.W.Frag} {H H' : Hp} {a : Addr} {xs : List V} (e : Same H H') (h : SqL K H a xs) : SqL K H' a xs := by
  rcases h with (h | ⟨o, h⟩) | h
  · exact .inl (.inl (e _ _ h))
  · exact .inl (.inr ⟨o, e _ _ h⟩)
  · exact .inr h

end L2
set_option Elab.async false
set_option linter.all false
set_option maxRecDepth 100000
namespace L2
open PySem PySem.Spec PyProof.Rows

def clOf (env : Env) : List (Str × NameKind) → List (Str × Addr) → List (Str × Addr)
  | [], acc => acc
  | (n, k) :: r, acc => if k == .free then (match env.cells.lookup n with | some c => clOf env r ((n, c) :: acc) | none => clOf env r acc) else clOf env r acc

theorem clo_loop {env : Env} : ∀ (names : List (Str × NameKind)) (acc : List (Str × Addr)), (∀ y ∈ names, y.2 = .free → ∃ c, env.cells.lookup y.1 = some c) →
    (forIn names acc fun (x : Str × NameKind) (r : List (Str × Addr)) => (match x with
      | (name, kind) => if (kind == NameKind.free) = true then (do let a ← cellOf env name; pure (ForInStep.yield ((name, a) :: r))) else pure (ForInStep.yield r) : Sem (ForInStep (List (Str × Addr))))) = (pure (clOf env names acc) : Sem _)
  | [], acc, _ => rfl
  | (n, k) :: r, acc, h => by
    have ih := fun acc => clo_loop r acc fun y hy => h y (List.mem_cons_of_mem _ hy)
    rw [List.forIn_cons]
    by_cases hk : (k == NameKind.free) = true
    · obtain ⟨c, hc⟩ := h (n, k) List.mem_cons_self (by simpa using hk)
      have e1 : clOf env ((n, k) :: r) acc = clOf env r ((n, c) :: acc) := by
        show (if k == .free then _ else _) = _
        rw [if_pos hk]; simp only at hc; rw [hc]
      simp only at hc
      rw [e1, ← ih]
      simp only [hk, if_true, cellOf, hc]
      rfl
    · have e1 : clOf env ((n, k) :: r) acc = clOf env r acc := by
        show (if k == .free then _ else _) = _
        rw [if_neg hk]
      rw [e1, ← ih]
      simp only [hk, if_false]
      rfl
theorem clo_of {env : Env} {scope : Scope} (h : ∀ y ∈ scope.names, y.2 = .free → ∃ c, env.cells.lookup y.1 = some c) : closureFor scope env = pure (clOf env scope.names []) := by
  unfold closureFor
  have e := clo_loop scope.names [] h
  show (forIn scope.names [] _ >>= _) = _
  exact (congrArg (fun z => z >>= fun r => pure r) e).trans rfl
theorem clOf_mem {env : Env} : ∀ (names : List (Str × NameKind)) (acc : List (Str × Addr)) (n : Str) (c : Addr), (n, c) ∈ clOf env names acc → (n, c) ∈ acc ∨ env.cells.lookup n = some c
  | [], _, _, _, h => .inl h
  | (m, k) :: r, acc, n, c, h => by
    by_cases hk : (k == NameKind.free) = true
    · rw [show clOf env ((m, k) :: r) acc = (match env.cells.lookup m with | some c => clOf env r ((m, c) :: acc) | none => clOf env r acc) from if_pos hk] at h
      cases e : env.cells.lookup m with
      | none => rw [e] at h; exact clOf_mem r acc n c h
      | some d =>
        rw [e] at h
        rcases clOf_mem r _ n c h with q | q
        · rcases List.mem_cons.mp q with q | q
          · cases q; exact .inr e
          · exact .inl q
        · exact .inr q
    · rw [show clOf env ((m, k) :: r) acc = clOf env r acc from if_neg hk] at h
      exact clOf_mem r acc n c h
theorem clOf_has {env : Env} : ∀ (names : List (Str × NameKind)) (acc : List (Str × Addr)) (n : Str), ((∃ c, (n, c) ∈ acc) ∨ ((n, NameKind.free) ∈ names ∧ ∃ c, env.cells.lookup n = some c)) → ∃ c, (n, c) ∈ clOf env names acc
  | [], _, _, h => by
    rcases h with h | ⟨h, _⟩
    · exact h
    · cases h
  | (m, k) :: r, acc, n, h => by
    by_cases hk : (k == NameKind.free) = true
    · rw [show clOf env ((m, k) :: r) acc = (match env.cells.lookup m with | some c => clOf env r ((m, c) :: acc) | none => clOf env r acc) from if_pos hk]
      cases e : env.cells.lookup m with
      | none =>
        refine clOf_has r acc n ?_
        rcases h with h | ⟨h, c, hc⟩
        · exact .inl h
        · rcases List.mem_cons.mp h with h | h
          · cases h; rw [e] at hc; cases hc
          · exact .inr ⟨h, c, hc⟩
      | some d =>
        refine clOf_has r _ n ?_
        rcases h with ⟨c, h⟩ | ⟨h, c, hc⟩
        · exact .inl ⟨c, List.mem_cons_of_mem _ h⟩
        · rcases List.mem_cons.mp h with h | h
          · cases h; exact .inl ⟨d, List.mem_cons_self⟩
          · exact .inr ⟨h, c, hc⟩
    · rw [show clOf env ((m, k) :: r) acc = clOf env r acc from if_neg hk]
      refine clOf_has r acc n ?_
      rcases h with h | ⟨h, c, hc⟩
      · exact .inl h
      · rcases List.mem_cons.mp h with h | h
        · cases h; exact absurd rfl hk
        · exact .inr ⟨h, c, hc⟩
theorem lookup_memS {β : Type} : ∀ {l : List (Str × β)} {a : Str} {b : β}, l.lookup a = some b → (a, b) ∈ l := PySem.mem_of_lookup_some
theorem mem_lookupS {β : Type} : ∀ {l : List (Str × β)} {a : Str} {b : β}, (a, b) ∈ l → ∃ c, l.lookup a = some c
  | (k, v) :: l, a, b, h => by
    rw [List.lookup_cons]
    by_cases e : (a == k) = true
    · rw [e]; exact ⟨v, rfl⟩
    · have e' : (a == k) = false := by simpa using e
      rw [e']
      rcases List.mem_cons.mp h with h | h
      · cases h; simp at e
      · exact mem_lookupS h
theorem lookup_relabel {env : Env} (x : Str) : ∀ (names : List (Str × NameKind)),
    (names.map fun (n, k) => if (k == NameKind.free && env.scope.kind == .function && env.kindOf n == some .cell) then (n, NameKind.cell) else (n, k)).lookup x =
      (names.lookup x).map fun k => if (k == NameKind.free && env.scope.kind == .function && env.kindOf x == some .cell) then NameKind.cell else k
  | [] => rfl
  | (n, k) :: r => by
    have ih := lookup_relabel (env := env) x r
    rw [List.map_cons]
    by_cases e : (x == n) = true
    · have en : x = n := by simpa using e
      subst en
      dsimp only
      by_cases c : (k == NameKind.free && env.scope.kind == .function && env.kindOf x == some .cell) = true
      · rw [if_pos c, List.lookup_cons, List.lookup_cons, e]
        simp only [Option.map_some, c, if_true]
      · rw [if_neg c, List.lookup_cons, List.lookup_cons, e]
        simp only [Option.map_some, c]
        rfl
    · have e' : (x == n) = false := by simpa using e
      dsimp only
      by_cases c : (k == NameKind.free && env.scope.kind == .function && env.kindOf n == some .cell) = true
      · rw [if_pos c, List.lookup_cons, List.lookup_cons, e']; exact ih
      · rw [if_neg c, List.lookup_cons, List.lookup_cons, e']; exact ih

def cxComp (X : Cx) (scope : Scope) (N : List Str) (C : Addr) (s0 : Shared) (H0 : Hp) (fp : List Addr) : Cx where
  prog := X.prog
  w := X.w
  K := X.K
  mg := X.mg
  base := X.base
  A := X.A
  N := N
  s₀ := s0
  H₀ := H0
  env := compEnvC scope (clOf X.env scope.names []) C X.env
  outer := X.stack
  stack := X.stack
  ex := fp
  fn := fun _ => false
  calm := X.calm
  pn := []
  xe := fun _ _ => False
def compCheck (sc scope : Scope) (own : List Str) (frn : List Str) : Bool :=
  scope.kind == .function && scope.names.all (fun y => y.2 != .cell) && scope.names.all (fun y => y.2 != .local || scope.names.lookup y.1 == some .local) &&
  scope.names.all (fun y => y.2 != .free || sc.names.lookup y.1 == some .cell || sc.names.lookup y.1 == some .free) && decide (own ++ frn).Nodup &&
  own.all (fun x => scope.names.lookup x == some .local) && frn.all (fun x => scope.names.lookup x == some .free)
def blk (own : Nat) (fr : List Nat) (σ : St) : St := List.replicate own none ++ fr.map fun j => (σ[j]?).join
structure CompOk (X : Cx) (scope : Scope) (own : List Str) (fr : List Nat) (frn : List Str) : Prop where
  ck : compCheck X.env.scope scope own frn = true
  ix : ∀ (k : Nat) (x : Str), frn[k]? = some x → ∃ j : Nat, fr[k]? = some j ∧ X.N[j]? = some x
  len : fr.length = frn.length
section
variable {X : Cx} {scope : Scope} {own frn : List Str} {fr : List Nat}
theorem CompOk.parts (S : CompOk X scope own fr frn) : scope.kind = .function ∧ (∀ y ∈ scope.names, y.2 ≠ .cell) ∧ (∀ y ∈ scope.names, y.2 = .local → scope.names.lookup y.1 = some .local) ∧
    (∀ y ∈ scope.names, y.2 = .free → X.env.scope.names.lookup y.1 = some .cell ∨ X.env.scope.names.lookup y.1 = some .free) ∧ (own ++ frn).Nodup ∧ (∀ x ∈ own, scope.names.lookup x = some .local) ∧ ∀ x ∈ frn, scope.names.lookup x = some .free := by
  have h := S.ck
  unfold compCheck at h
  simp only [Bool.and_eq_true, List.all_eq_true, decide_eq_true_eq, Bool.or_eq_true, bne_iff_ne, ne_eq, beq_iff_eq] at h
  obtain ⟨⟨⟨⟨⟨⟨h1, h2⟩, h3⟩, h4⟩, h5⟩, h6⟩, h7⟩ := h
  refine ⟨h1, h2, fun y hy e => ?_, fun y hy e => ?_, h5, h6, h7⟩
  · rcases h3 y hy with z | z
    · exact absurd e z
    · exact z
  · rcases h4 y hy with (z | z) | z
    · exact absurd e z
    · exact .inl z
    · exact .inr z
theorem blk_length (S : CompOk X scope own fr frn) (σ : St) : (blk own.length fr σ).length = (own ++ frn).length := by
  unfold blk
  rw [List.length_append, List.length_append, List.length_replicate, List.length_map, S.len]

theorem inv_comp {pins : List (Addr × Obj)} {σ : St} {H : Hp} {s : Shared} {fp : List Addr} {h1 : Heap} {tk : Nat} {C D : Addr} {oD : Obj} {m : Str → Option Value} (I : Inv X pins σ H s) (S : CompOk X scope own fr frn)
    (hfp : ∀ b ∈ fp, FpOk X pins H b) (hlt : ∀ b ∈ fp, b < s.heap.objs.size) (hC : s.heap.objs.size ≤ C) (hn : h1.Ns C m) (hk : ∀ b o, s.heap.get? b = some o → h1.get? b = some o)
    (hD : s.heap.objs.size ≤ D) (hDC : D ≠ C) (hoD : h1.get? D = some oD) (hdD : ∀ v, oD.data ≠ .cell v) :
    Inv (cxComp X scope (own ++ frn) C s H fp) [(D, oD)] (blk own.length fr σ) H { s with heap := h1, toks := tk } := by
  obtain ⟨p1, p2, p3, p4, p5, p6, p7⟩ := S.parts
  have below : ∀ b, b < s.heap.objs.size → b ≠ C := fun b hb z => Nat.lt_irrefl _ (Nat.lt_of_lt_of_le (z ▸ hb) hC)
  have clsub : ∀ x c, (clOf X.env scope.names []).lookup x = some c → X.env.cells.lookup x = some c := fun x c e => by
    rcases clOf_mem _ _ _ _ (lookup_memS e) with q | q
    · cases q
    · exact q
  have clt : ∀ x c, X.env.cells.lookup x = some c → c < s.heap.objs.size := fun x c e => by
    obtain ⟨v, q⟩ := I.cell x c e
    exact q.lt
  have nstk : ∀ b ∈ fp, b ∉ frs X.stack := fun b hb z => by
    obtain ⟨_, f1, f2, _⟩ := hfp b hb
    rcases List.mem_cons.mp (I.stkSub b z) with e | e
    · exact f1 e
    · exact f2 e
  have Dfs : D ∉ frs X.stack := fun z => by
    have q := I.stkSub D z
    rcases List.mem_cons.mp q with e | e
    · exact Nat.lt_irrefl _ (Nat.lt_of_lt_of_le (e ▸ I.lt : D < _) hD)
    · exact I.nofs hD e
  refine ⟨⟨I.ok.mod, p1, I.ok.glob, I.ok.blt, hC, fun x y c e1 e2 => I.ok.inj x y c (clsub x c e1) (clsub y c e2), fun x hx => ?_, fun x c e => absurd e (by show ¬ (false = true); decide), I.ok.hd, I.ok.frames, .inl rfl, fun b hb => ?_, I.bs, Nat.le_trans I.ok.bsz I.sz, fun b o e hb => ?_, nstk, I.stack, I.stkFree⟩,
    rfl, I.bare, Un.kept hk, ⟨m, hn, fun i x v e1 e2 e3 => ?_⟩, fun x c e => ?_, I.hok.fresh hC, fun x c e => I.freeC x c (clsub x c e), fun p hp => ?_, I.hok.kept hk, blk_length S σ⟩
  · -- has
    have hx' : (relabel scope X.env).names.lookup x = some .cell ∨ (relabel scope X.env).names.lookup x = some .free := hx
    have hl : (relabel scope X.env).names.lookup x = _ := lookup_relabel (env := X.env) x scope.names
    rw [hl] at hx'
    cases e : scope.names.lookup x with
    | none =>
      rw [e] at hx'
      rcases hx' with z | z <;> cases z
    | some k =>
      have hmem := lookup_memS e
      have hkf : k = .free := by
        rw [e] at hx'
        simp only [Option.map_some, Option.some.injEq] at hx'
        by_cases c : (k == NameKind.free && X.env.scope.kind == .function && X.env.kindOf x == some .cell) = true
        · simp only [Bool.and_eq_true, beq_iff_eq] at c
          exact c.1.1
        · rw [if_neg c] at hx'
          rcases hx' with z | z
          · exact absurd z (p2 _ hmem)
          · exact z
      subst hkf
      obtain ⟨c, hc⟩ := I.ok.has x (p4 _ hmem rfl)
      obtain ⟨c', hc'⟩ := clOf_has (env := X.env) scope.names [] x (.inr ⟨hmem, c, hc⟩)
      exact mem_lookupS hc'
  · -- exf
    refine ⟨below b (hlt b hb), fun x c e => ?_⟩
    exact (hfp b hb).2.2.2.2.1 x c (clsub x c e)
  · -- noex
    rcases (hfp b hb).2.2.2.1 with z | z
    · exact I.ok.noex b o e z
    · exact absurd (Nat.lt_of_lt_of_le (Heap.lt_size (I.ok.bs b o e).1) z) (Nat.lt_irrefl _)
  · -- loc
    show ∃ u, RelV v u ∧ Look _ _ _ x u
    have e1' : (own ++ frn)[i]? = some x := e1
    have e2' : (blk own.length fr σ)[i]? = some (some v) := e2
    unfold blk at e2'
    by_cases hi : i < own.length
    · rw [List.getElem?_append_left (by simpa using hi), List.getElem?_replicate] at e2'
      rw [if_pos hi] at e2'
      cases e2'
    · rw [List.getElem?_append_right (by simpa using hi)] at e2'
      rw [List.getElem?_append_right (by omega)] at e1'
      rw [List.length_replicate, List.getElem?_map] at e2'
      obtain ⟨j, hj1, hj2⟩ := S.ix _ _ e1'
      rw [hj1] at e2'
      simp only [Option.map_some, Option.some.injEq] at e2'
      have hσ : σ[j]? = some (some v) := by
        cases q : σ[j]? with
        | none => rw [q] at e2'; cases e2'
        | some w => rw [q] at e2'; exact congrArg some e2'
      have hfree := p7 x (List.mem_of_getElem? e1')
      have hmem := lookup_memS hfree
      have kx := p4 _ hmem rfl
      have vis : Vis X.env.scope x := by
        rcases kx with z | z
        · exact .inr (.inl z)
        · exact .inr (.inr z)
      obtain ⟨m0, hn0, hl0⟩ := I.loc
      obtain ⟨u, ru, lk⟩ := hl0 j x v hj2 hσ vis
      refine ⟨u, ru, .inr ⟨?_, ?_⟩⟩
      · show (relabel scope X.env).names.lookup x = some .cell ∨ (relabel scope X.env).names.lookup x = some .free
        have hl : (relabel scope X.env).names.lookup x = _ := lookup_relabel (env := X.env) x scope.names
        rw [hl, hfree]
        simp only [Option.map_some, Option.some.injEq]
        by_cases c : (NameKind.free == NameKind.free && X.env.scope.kind == .function && X.env.kindOf x == some .cell) = true
        · rw [if_pos c]; exact .inl rfl
        · rw [if_neg c]; exact .inr rfl
      · rcases lk with ⟨kl, _⟩ | ⟨_, c, hc, hcell⟩
        · have kl' : X.env.scope.names.lookup x = some .local := kl
          rcases kx with z | z <;> (have z' : X.env.scope.names.lookup x = _ := z; rw [kl'] at z'; cases z')
        · obtain ⟨c', hc'⟩ := clOf_has (env := X.env) scope.names [] x (.inr ⟨hmem, c, hc⟩)
          obtain ⟨c2, hc2⟩ := mem_lookupS hc'
          have ec : c2 = c := by
            have := clsub x c2 hc2
            rw [hc] at this
            exact (Option.some.inj this).symm
          subst ec
          obtain ⟨oc, ho, hd⟩ := hcell
          exact ⟨c2, hc2, oc, hk _ _ ho, hd⟩
  · obtain ⟨v, o, ho, hd⟩ := I.cell x c (clsub x c e)
    exact ⟨v, o, hk _ _ ho, hd⟩
  · have hp' : p ∈ ([] : List (Addr × Obj)) ++ [(D, oD)] := hp
    simp only [List.nil_append, List.mem_singleton] at hp'
    subst hp'
    exact ⟨hoD, I.hok.fresh hD, hDC, Dfs, hdD⟩
end
end L2
set_option Elab.async false
set_option linter.all false
set_option maxRecDepth 100000
namespace L2
open PySem PySem.Spec PyProof.Rows

theorem compLoop_go {prog : Program} {w : World} {A : Around} {R : Result → Shared → Prop} {s : Shared} {elt target iter : Expr} {ifs : List Expr} {scope : Scope} {pos : Pos} {it acc : Value} {env : Env} (I : Nat → Shared → Prop)
    (turn : ∀ n s, I n s → wpAny (model prog w) A (pyNext it) (fun r s₁ => match r with
      | none => R (.ok .next) s₁
      | some v => wpAny (model prog w) A (letOwnedTupleGo target it v) (fun _ s₁' => wpAny (model prog w) A (assign target env v) (fun _ s₂ =>
          wpAny (model prog w) A (forIn ifs true fun c r => if r = true then do let ok ← isTrue c env (eval c env); pure (ForInStep.yield ok) else pure (ForInStep.yield r)) (fun ok s₃ =>
            if ok = true then wpAny (model prog w) A (eval elt env) (fun x s₄ =>
              wpAny (model prog w) A (call (.builtin "list.append") [acc, x]) (fun _ s₅ => ∃ m, m < n ∧ I m s₅) (fun _ _ => False) s₄) (fun _ _ => False) s₃
            else ∃ m, m < n ∧ I m s₃) (fun _ _ => False) s₂) (fun _ _ => False) s₁') (fun _ _ => False) s₁) (fun _ _ => False) s)
    (n : Nat) (h : I n s) :
    codeAny (model prog w) A (.compLoop (.ListComp elt [⟨target, iter, ifs, 0⟩] scope pos) 0 it acc env) R s := by
  refine codeAny_loop rfl I (fun n s hI => ?_) n h
  show wpAny _ A ((compTurn (.ListComp elt [⟨target, iter, ifs, 0⟩] scope pos) 0 it acc env).onRaise (fun x => do noteFrame x env; theTreesLotGoes x)) _ _ s
  refine wpAny_noted ?_
  rw [compTurn_list]
  refine wpAny_bind (wpAny_standAt (wpAny_bind (wpAny_mono (turn n s hI) (fun r s₁ h₁ => ?_) fun _ _ h' => h'.elim)))
  cases r with
  | none => exact wpAny_pure h₁
  | some v =>
    refine wpAny_bind (wpAny_mono h₁ (fun _ s₁' h₁' => ?_) fun _ _ h' => h'.elim)
    refine wpAny_bind (wpAny_mono h₁' (fun _ s₂ h₂ => wpAny_bind (wpAny_mono h₂ (fun ok s₃ h₃ => ?_) fun _ _ h' => h'.elim)) fun _ _ h' => h'.elim)
    cases ok with
    | false => exact wpAny_pure ⟨rfl, h₃⟩
    | true =>
      exact wpAny_bind (wpAny_bind (wpAny_mono h₃ (fun x s₄ h₄ => wpAny_bind (wpAny_mono h₄ (fun _ s₅ h₅ => wpAny_pure (wpAny_pure ⟨rfl, h₅⟩)) fun _ _ h' => h'.elim)) fun _ _ h' => h'.elim))

def PF (X : Cx) (ifs : List Expr) (t : TT) : Prop :=
  ∀ (pins : List (Addr × Obj)) (s : Shared) (σ : St) (H : Hp) (Q : Bool → Hp → Prop), Inv X pins σ H s → t σ H Q →
    wpAny (model X.prog X.w) X.A (forIn ifs true fun c r => if r = true then do let ok ← isTrue c X.env (eval c X.env); pure (ForInStep.yield ok) else pure (ForInStep.yield r)) (TP X pins σ Q) X.xe s
def tAll : TT := fun _ H Q => Q true H
theorem pf_nil {X : Cx} : PF X [] tAll := fun _ _ _ H _ I h => wpAny_tests_nil ⟨H, I, h⟩
theorem pf_one {X : Cx} {c : Expr} {t : TT} (h : PT X c t) : PF X [c] t := fun pins s σ H Q I hq => wpAny_tests_one (h pins s σ H Q I hq)

def tComp (own : Nat) (fr : List Nat) (wi : TI) (g : TG) (tt : TT) (te : TE) : TE := fun σ H Q => wi σ H fun J H1 => ∃ W : Nat → Nat → List V → St → Hp → Prop, (∃ m, W 0 m [] (blk own fr σ) H1) ∧ ∀ i m ys σ' H, W i m ys σ' H →
  (J.stop i H ∧ ∀ p, H p = none → Q (.ref p) (upd H p (.lst ys))) ∨
  (J.go i H ∧ ∃ N : List V → St → Hp → Prop, (∀ ys' σ2 H2, N ys' σ2 H2 → ∃ m', m' < m ∧ W (i + 1) m' ys' σ2 H2) ∧
    ∀ x H', J.yld i H x H' → g x σ' H' fun σ2 H2 => tt σ2 H2 fun b H3 => if b = true then te σ2 H3 fun y H4 => ys.length < sizeLine ∧ N (ys ++ [y]) σ2 H4 else N ys σ2 H3)

section
variable {X : Cx} {scope : Scope} {own frn : List Str} {fr : List Nat} {elt tg iter : Expr} {ifs : List Expr} {pos : Pos} {wi : TI} {g : TG} {tt : TT} {te : TE}

theorem Inv.track {pins : List (Addr × Obj)} {σ : St} {H : Hp} {s : Shared} {D : Addr} {ys : List V} {its : Array Value} (I : Inv X pins σ H s) (hD : s.heap.PlainList D its) (hv : Vals ys its.toList) (hz : ys.length ≤ sizeLine) (hn : H D = none) (hL : D ≠ X.env.locals)
    (h1 : X.s₀.heap.objs.size ≤ D) (h2 : ∀ x c, X.env.cells.lookup x = some c → c ≠ D) (h3 : ∀ p ∈ X.pn ++ pins, p.1 ≠ D) : Inv X pins σ (upd H D (.lst ys)) s := by
  have ne : ∀ b u, H b = some u → b ≠ D := fun b u e z => by rw [z, hn] at e; cases e
  refine I.step (g' := s.gens) (d' := s.drawn) (t' := s.toks) (h' := s.heap) (ch := [D]) (fun b hb => ?_) (fun b o _ _ _ e _ => e) (fun b o _ _ _ e _ => ⟨o.slots, e⟩) (fun b o hc _ n => ?_) (fun b o _ e => ⟨o, e⟩)
    (fun b xs e => by rw [upd_ne (ne b _ e)]; exact e) (fun b o u e => by rw [upd_ne (ne b _ e)]; exact e) (fun b ps e => ⟨#[], by rw [upd_ne (ne b _ e), e]; simp⟩) (fun _ h => h) (fun b u e => ?_) I.bare
  · have e : b = D := by simpa using hb
    subst e
    exact ⟨.inr h1, hL, h2, h3⟩
  · rw [upd_ne (by simpa using hc)]; exact n
  · by_cases hb : b = D
    · subst hb
      rw [upd_same] at e; cases e
      obtain ⟨n, e⟩ := hD
      exact ⟨hz, its.toList, n, hv, by simpa using e⟩
    · rw [upd_ne hb] at e
      exact (I.hok b u e).stay (fun c v _ q => q) (fun c q => by rw [upd_ne (ne c _ q)]; exact q) fun c xs q => by rw [upd_ne (ne c _ q)]; exact q

theorem comp_block {pins : List (Addr × Obj)} {σ : St} {H2 : Hp} {s2 : Shared} {it : Addr} {fp : List Addr} {tn : Nat → Heap → Prop} {J : It} {RR : Value → Addr → Result → Shared → Prop} {E : Value → Shared → Prop} {Q : Hp → List V → Prop}
    (S : CompOk X scope own fr frn) (hc : X.calm = true) (I2 : Inv X pins σ H2 s2) (T : Turn X.prog X.w X.K tg J fp it tn) (st2 : tn 0 s2.heap) (f2 : ∀ b ∈ fp, FpOk X pins H2 b)
    (hg : ∀ C s0 H0 fp, PG (cxComp X scope (own ++ frn) C s0 H0 fp) tg g) (ht : ∀ C s0 H0 fp, PF (cxComp X scope (own ++ frn) C s0 H0 fp) ifs tt) (he : ∀ C s0 H0 fp, PE (cxComp X scope (own ++ frn) C s0 H0 fp) elt te)
    (w : ∃ W : Nat → Nat → List V → St → Hp → Prop, (∃ m, W 0 m [] (blk own.length fr σ) H2) ∧ ∀ i m ys σ' H, W i m ys σ' H →
      (J.stop i H ∧ Q H ys) ∨
      (J.go i H ∧ ∃ N : List V → St → Hp → Prop, (∀ ys' σ2 H2, N ys' σ2 H2 → ∃ m', m' < m ∧ W (i + 1) m' ys' σ2 H2) ∧
        ∀ x H', J.yld i H x H' → g x σ' H' fun σ2 H2 => tt σ2 H2 fun b H3 => if b = true then te σ2 H3 fun y H4 => ys.length < sizeLine ∧ N (ys ++ [y]) σ2 H4 else N ys σ2 H3))
    (hRR : ∀ (C D : Addr) (s' : Shared) (H' : Hp) (ys : List V) (its : Array Value) (m : Str → Option Value), s2.heap.objs.size ≤ C → s2.heap.objs.size ≤ D → D ≠ C → s'.heap.Ns C m → H' C = none → H' D = none → s'.heap.PlainList D its → Vals ys its.toList → ys.length ≤ sizeLine →
      Inv X pins σ H' s' → Q H' ys → RR (.ref D) C (.ok .next) s') :
    wpAny (model X.prog X.w) X.A (newList []) (fun acc s₃ => wpAny (model X.prog X.w) X.A (newFunctionEnv scope X.env.globals (clOf X.env scope.names []) [] X.env.qual none .none (some X.env)) (fun cenv s₄ =>
      codeAny (model X.prog X.w) X.A (.compStart (.ListComp elt [⟨tg, iter, ifs, 0⟩] scope pos) 0 (.ref it) acc { cenv with scope := relabel scope X.env }) (RR acc cenv.locals) s₄) E s₃) E s2 := by
  obtain ⟨p1, p2, p3, p4, p5, p6, p7⟩ := S.parts
  obtain ⟨W, ⟨m0, w0⟩, turn⟩ := w
  refine wpAny_newObj_type (wpAny_newFunctionEnv p2 (by intro y hy; simp at hy) (fun h₁ hns₁ hsb₁ => ?_) p1)
  dsimp only at hns₁ hsb₁ ⊢
  generalize hH2 : s2.heap.push { cls := .type "list", dict := none, data := .seq ([] : List Value).toArray } = HD at hns₁ hsb₁ ⊢
  have hCs : HD.objs.size = s2.heap.objs.size + 1 := by rw [← hH2, Heap.size_push]
  have hDC : s2.heap.objs.size ≠ HD.objs.size := by omega
  have hCle : s2.heap.objs.size ≤ HD.objs.size := by omega
  have below : ∀ b, b < s2.heap.objs.size → b ≠ HD.objs.size ∧ b ≠ s2.heap.objs.size := fun b hb => ⟨by omega, by omega⟩
  have old : ∀ b o, s2.heap.get? b = some o → h₁.get? b = some o := fun b o e => hsb₁.extBut b o (below b (Heap.lt_size e)).1 (Heap.get?_push_of_some _ (hH2 ▸ Heap.get?_push_of_some _ e))
  have hacc : h₁.get? s2.heap.objs.size = some { cls := .type "list", data := .seq ([] : List Value).toArray } := hsb₁.extBut _ _ hDC (Heap.get?_push_of_some _ (hH2 ▸ Heap.get?_push_size _ rfl))
  have flt : ∀ b ∈ fp, b < s2.heap.objs.size := fun b hb => by
    obtain ⟨o, e, _⟩ := T.obj _ _ st2 b hb
    exact Heap.lt_size e
  generalize hDg : s2.heap.objs.size = D at *
  generalize hCg : HD.objs.size = C at *
  have st3 : tn 0 h₁ := T.keep _ _ _ st2 fun b _ o e => old b o e
  -- facts of the block
  have clsub : ∀ x c, (clOf X.env scope.names []).lookup x = some c → X.env.cells.lookup x = some c := fun x c e => by
    rcases clOf_mem _ _ _ _ (lookup_memS e) with q | q
    · cases q
    · exact q
  have cD : ∀ x c, (clOf X.env scope.names []).lookup x = some c → c ≠ D := fun x c e z => by
    obtain ⟨v, q⟩ := I2.cell x c (clsub x c e)
    exact Nat.lt_irrefl _ (Nat.lt_of_lt_of_le q.lt (by rw [hDg, z]; exact Nat.le_refl _))
  have loop : ∀ s₃ : Shared, s₃ = { s2 with heap := h₁, toks := s2.toks + ([] : List (Str × Value)).length } →
      codeAny (model X.prog X.w) X.A (.compLoop (.ListComp elt [⟨tg, iter, ifs, 0⟩] scope pos) 0 (.ref it) (.ref D) (compEnvC scope (clOf X.env scope.names []) C X.env)) (RR (.ref D) C) s₃ := by
    rintro s₃ rfl
    have I3 : Inv (cxComp X scope (own ++ frn) C s2 H2 fp) [(D, _)] (blk own.length fr σ) H2 { s2 with heap := h₁, toks := s2.toks + ([] : List (Str × Value)).length } :=
      inv_comp (m := fun _ => none) I2 S f2 (by rw [hDg]; exact flt) (by rw [hDg]; exact hCle) (hns₁ : h₁.Ns C _) old (by rw [hDg]; exact Nat.le_refl _) hDC hacc (fun v z => by cases z)
    have stat : ∀ {H' : Hp} {pl : List (Addr × Obj)}, (∀ p ∈ pl, p.1 = D) → (∀ b ∈ fp, H' b = none) → ∀ b ∈ fp, FpOk (cxComp X scope (own ++ frn) C s2 H2 fp) pl H' b := fun {H' pl} hpl hn b hb => by
      refine ⟨hn b hb, (below b (flt b hb)).1, fun z => ?_, .inl hb, fun x c e => (f2 b hb).2.2.2.2.1 x c (clsub x c e), fun p hp => ?_⟩
      · have z' : b ∈ frs X.stack := z
        rcases List.mem_cons.mp (I2.stkSub b z') with e | e
        · exact (f2 b hb).2.1 e
        · exact (f2 b hb).2.2.1 e
      · have hp' : p ∈ pl := by simpa [cxComp] using hp
        rw [hpl p hp']
        exact Ne.symm (below b (flt b hb)).2
    refine compLoop_go (env := compEnvC scope (clOf X.env scope.names []) C X.env) (fun n s' => ∃ i σ' H' ys its o, Inv (cxComp X scope (own ++ frn) C s2 H2 fp) [(D, o)] σ' H' s' ∧ s'.heap.PlainList D its ∧ Vals ys its.toList ∧ ys.length ≤ sizeLine ∧ tn i s'.heap ∧ (∀ b ∈ fp, H' b = none) ∧ W i n ys σ' H') ?_ m0
      ⟨0, _, H2, [], #[], _, I3, ⟨_, hacc⟩, .nil, Nat.zero_le _, st3, fun b hb => (f2 b hb).1, w0⟩
    rintro n s5 ⟨i, σ5, H5, ys, its, o, I5, pl5, v5, z5, st5, fr5, w5⟩
    have one : ∀ {o : Obj}, ∀ p ∈ [(D, o)], p.1 = D := fun p hp => by
      have e := List.mem_singleton.mp hp
      rw [e]
    rcases turn i n ys σ5 H5 w5 with ⟨stop, qn⟩ | ⟨go, N, hN, step⟩
    · refine wpAny_mono (T.done (cxComp X scope (own ++ frn) C s2 H2 fp) rfl rfl rfl hc i _ s5 σ5 H5 (fun _ _ => False) I5 (stat one fr5) st5 stop) (fun r s6 hx9 => ?_) fun _ _ z => z
      obtain ⟨hr, I6⟩ := hx9
      subst hr
      obtain ⟨m6, hn6, _⟩ := I6.loc
      have p6 := I6.pin (D, o) (by simp [cxComp])
      have p5' := I5.pin (D, o) (by simp [cxComp])
      have pl6 : s6.heap.PlainList D its := by
        obtain ⟨k, e⟩ := pl5
        have e1 : o = _ := Option.some.inj (p5'.1.symm.trans e)
        exact ⟨k, by rw [p6.1]; exact congrArg some e1⟩
      have IX : Inv X pins σ H5 s6 := I2.call' (ch := fp) I6.os I6.base I6.hok I6.bare fun b hb => ⟨(f2 b hb).2.2.2.1, (f2 b hb).2.1, (f2 b hb).2.2.2.2.1, (f2 b hb).2.2.2.2.2⟩
      exact hRR C D s6 H5 ys its m6 hCle (Nat.le_refl _) hDC hn6 I6.free p6.2.1 pl6 v5 z5 IX qn
    · refine wpAny_mono (T.item (cxComp X scope (own ++ frn) C s2 H2 fp) rfl rfl rfl hc i _ s5 σ5 H5 (fun _ _ => False) I5 (stat one fr5) st5 go) (fun r s6 hx9 => ?_) fun _ _ z => z
      obtain ⟨u, hr, h6⟩ := hx9
      subst hr
      refine wpAny_mono h6 (fun _ s7 hx9 => ?_) fun _ _ z => z
      obtain ⟨x, H7, I7, r7, y7, st7, fr7⟩ := hx9
      have I7' := I7.pinned (stat one fr7) (T.obj _ _ st7)
      refine wpAny_mono (hg C s2 H2 fp _ s7 σ5 H7 x u _ I7' r7 (step x H7 y7)) (fun _ s8 hx9 => ?_) fun _ _ z => z
      obtain ⟨σ8, H8, I8, q8⟩ := hx9
      refine wpAny_mono (ht C s2 H2 fp _ s8 σ8 H8 _ I8 q8) (fun b s9 hx9 => ?_) fun _ _ z => z
      obtain ⟨H9, I9, q9⟩ := hx9
      -- what stands of the iterator and of the gathered list behind the tests, behind the item
      have keepT : ∀ {H' : Hp} {s' : Shared} {σ' : St}, Inv (cxComp X scope (own ++ frn) C s2 H2 fp) ([(D, o)] ++ pinsAt fp s7.heap) σ' H' s' → tn (i + 1) s'.heap ∧ (∀ b ∈ fp, H' b = none) ∧ s'.heap.PlainList D its ∧ H' D = none := fun {H' s' σ'} I' => by
        refine ⟨T.keep _ _ _ st7 fun b hb o e => (I'.pin (b, o) (List.mem_append_right _ (List.mem_append_right _ (mem_pinsAt hb e)))).1, fun b hb => ?_, ?_, ?_⟩
        · obtain ⟨o, e, d⟩ := T.obj _ _ st7 b hb
          exact (I'.pin (b, o) (List.mem_append_right _ (List.mem_append_right _ (mem_pinsAt hb e)))).2.1
        · have p' := I'.pin (D, o) (by simp [cxComp])
          have p5' := I5.pin (D, o) (by simp [cxComp])
          obtain ⟨k, e⟩ := pl5
          have e1 : o = _ := Option.some.inj (p5'.1.symm.trans e)
          exact ⟨k, by rw [p'.1]; exact congrArg some e1⟩
        · exact (I'.pin (D, o) (by simp [cxComp])).2.1
      cases b with
      | false =>
        rw [if_neg Bool.false_ne_true] at q9
        rw [if_neg Bool.false_ne_true]
        obtain ⟨m', hm, w'⟩ := hN ys σ8 H9 q9
        obtain ⟨t9, fr9, pl9, _⟩ := keepT I9
        exact ⟨m', hm, i + 1, σ8, H9, ys, its, o, I9.unpinned, pl9, v5, z5, t9, fr9, w'⟩
      | true =>
        rw [if_pos rfl] at q9
        rw [if_pos rfl]
        refine wpAny_mono (he C s2 H2 fp _ s9 σ8 H9 _ I9 q9) (fun y s10 hx9 => ?_) fun _ _ z => z
        obtain ⟨yv, H10, I10, r10, lt10, q10⟩ := hx9
        obtain ⟨t10, fr10, pl10, hD10⟩ := keepT I10
        have hl := v5.length
        refine wpAny_list_append_plain pl10 (fun h11 pl11 sb11 => ?_) (by rw [← Array.length_toList, ← hl]; exact Nat.le_of_lt lt10)
        obtain ⟨m', hm, w'⟩ := hN _ σ8 H10 q10
        have I10' : Inv (cxComp X scope (own ++ frn) C s2 H2 fp) [] σ8 H10 s10 := I10.pins_of fun p hp => by cases hp
        have I11 : Inv (cxComp X scope (own ++ frn) C s2 H2 fp) [] σ8 H10 { s10 with heap := h11 } :=
          I10'.turned (t' := s10.toks) (it := D) (fun b o hb e => (sb11.2 b hb).trans e) hD10 hDC (.inr (by show s2.heap.objs.size ≤ D; rw [hDg]; exact Nat.le_refl _)) cD (fun p hp => by simp [cxComp] at hp)
        obtain ⟨k11, e11⟩ := id pl11
        have DfsX : D ∉ frs X.stack := fun z => by
          rcases List.mem_cons.mp (I2.stkSub D z) with e | e
          · exact Nat.lt_irrefl _ (Nat.lt_of_lt_of_le I2.lt (by rw [hDg, e]; exact Nat.le_refl _))
          · exact I2.nofs (by rw [hDg]; exact Nat.le_refl _) e
        refine ⟨m', hm, i + 1, σ8, H10, ys ++ [yv], its.push y, { cls := .type "list", data := .seq (its.push y) k11 }, I11.pins_of fun p hp => ?_, pl11, ?_, by rw [List.length_append]; show ys.length + 1 ≤ _; omega, T.keep _ _ _ t10 fun b hb o e => (sb11.2 b (below b (flt b hb)).2).trans e, fr10, w'⟩
        · have e := List.mem_singleton.mp hp
          subst e
          exact ⟨e11, hD10, hDC, DfsX, fun v z => by cases z⟩
        · rw [Array.toList_push]
          exact v5.append (.cons r10 .nil)
  exact codeAny_compStart_list (loop _ rfl) (T.self X.A 0 _ _ _ st3 (loop _ rfl))

theorem CompOk.clo {pins : List (Addr × Obj)} {σ : St} {H : Hp} {s : Shared} (S : CompOk X scope own fr frn) (I : Inv X pins σ H s) : closureFor scope X.env = pure (clOf X.env scope.names []) := by
  obtain ⟨p1, p2, p3, p4, p5, p6, p7⟩ := S.parts
  exact clo_of fun y hy e => I.ok.has y.1 (p4 y hy e)

theorem pe_comp (S : CompOk X scope own fr frn) (hc : X.calm = true) (hi : PI X tg iter wi) (hg : ∀ C s0 H0 fp, PG (cxComp X scope (own ++ frn) C s0 H0 fp) tg g) (ht : ∀ C s0 H0 fp, PF (cxComp X scope (own ++ frn) C s0 H0 fp) ifs tt)
    (he : ∀ C s0 H0 fp, PE (cxComp X scope (own ++ frn) C s0 H0 fp) elt te) (hs : ∀ x, foldedSetIterable iter X.env x = pure x := by intro _; rfl) :
    PE X (.ListComp elt [⟨tg, iter, ifs, 0⟩] scope pos) (tComp own.length fr wi g tt te) := by
  intro pins s σ H Q I h
  obtain ⟨p1, p2, p3, p4, p5, p6, p7⟩ := S.parts
  rw [eval_ListComp]
  refine wpAny_comprehension_free (use := none) rfl hs (S.clo I) p1 p3 (thn (hi pins s σ H _ I h) fun v s1 h1 => thn h1 fun itv s2 h2 => ?_)
  obtain ⟨it, fp, tn, J, H2, e, I2, T, st2, f2, hw⟩ := h2
  subst e
  refine comp_block (RR := fun acc C => compPost (model X.prog X.w) X.A X.xe none (EP X pins σ Q) acc C) (Q := fun H ys => ∀ p, H p = none → Q (.ref p) (upd H p (.lst ys))) S hc I2 T st2 f2 hg ht he hw ?_
  intro C D s' H' ys its m hC hD hDC hns hHC hHD pl v z IX q
  have cne : ∀ a, s2.heap.objs.size ≤ a → ∀ x c, X.env.cells.lookup x = some c → c ≠ a := fun a ha x c e z => by
    obtain ⟨v, w⟩ := I2.cell x c e
    exact Nat.lt_irrefl _ (Nat.lt_of_lt_of_le w.lt (by rw [z]; exact ha))
  have pne : ∀ a, s2.heap.objs.size ≤ a → ∀ p ∈ X.pn ++ pins, p.1 ≠ a := fun a ha p hp z => Nat.lt_irrefl _ (Nat.lt_of_lt_of_le (Heap.lt_size (I2.pin p hp).1) (by rw [z]; exact ha))
  have lne : ∀ a, s2.heap.objs.size ≤ a → a ≠ X.env.locals := fun a ha z => Nat.lt_irrefl _ (Nat.lt_of_lt_of_le I2.lt (by rw [← z]; exact ha))
  refine ⟨m, hns, fun h' hs' => ⟨.ref D, upd H' D (.lst ys), ?_, rfl, q D hHD⟩⟩
  have IT : Inv X pins σ (upd H' D (.lst ys)) s' := IX.track pl v z hHD (lne D hD) (Nat.le_trans I2.sz hD) (cne D hD) (pne D hD)
  exact IT.turned (t' := s'.toks) (it := C) (fun b o hb e => (hs'.2 b hb).trans e) (by rw [upd_ne (Ne.symm hDC)]; exact hHC) (lne C hC) (.inr (Nat.le_trans I2.sz hC)) (cne C hC) (pne C hC)

theorem ps_setcomp {i : Nat} {y : Str} {py spos : Pos} (S : CompOk X scope own fr frn) (hc : X.calm = true) (hN : X.N.Nodup) (hyi : X.N[i]? = some y) (hx : X.env.scope.names.lookup y = some .local)
    (hsw : swapsWith (.ListComp elt [⟨tg, iter, ifs, 0⟩] scope pos) (some (.Name y py)) spos.line X.env = pure true)
    (hi : PI X tg iter wi) (hg : ∀ C s0 H0 fp, PG (cxComp X scope (own ++ frn) C s0 H0 fp) tg g) (ht : ∀ C s0 H0 fp, PF (cxComp X scope (own ++ frn) C s0 H0 fp) ifs tt)
    (he : ∀ C s0 H0 fp, PE (cxComp X scope (own ++ frn) C s0 H0 fp) elt te) (hs : ∀ x, foldedSetIterable iter X.env x = pure x := by intro _; rfl) :
    PS X (.Assign [.Name y py] (.ListComp elt [⟨tg, iter, ifs, 0⟩] scope pos) spos) (tAsg (tComp own.length fr wi g tt te) (gName i)) := by
  intro pins s σ H D I h
  obtain ⟨p1, p2, p3, p4, p5, p6, p7⟩ := S.parts
  rw [exec_Assign_Name_used _ _ _ _ hsw]
  refine wpAny_bind (wpAny_standAt (wpAny_bind ?_))
  show wpAny _ X.A (do let _ ← comprehension (.ListComp elt [⟨tg, iter, ifs, 0⟩] scope pos) scope X.env _ (newList []) false (eval iter X.env) (some (assign (.Name y py) X.env))) _ _ s
  refine wpAny_bind (wpAny_mono (wpAny_comprehension_free (use := some (assign (.Name y py) X.env)) (Q := fun _ s' => SP X pins D .next s') rfl hs (S.clo I) p1 p3 (thn (hi pins s σ H _ I h) fun v s1 h1 => thn h1 fun itv s2 h2 => ?_))
    (fun _ s' hq => wpAny_pure (wpAny_pure hq)) fun _ _ e => e)
  obtain ⟨it, fp, tn, J, H2, e, I2, T, st2, f2, hw⟩ := h2
  subst e
  refine comp_block (RR := fun acc C => compPost (model X.prog X.w) X.A X.xe (some (assign (.Name y py) X.env)) (fun _ s' => SP X pins D .next s') acc C) (Q := fun H ys => ∀ p, H p = none → D.nx (σ.set i (some (.ref p))) (upd H p (.lst ys))) S hc I2 T st2 f2 hg ht he hw ?_
  intro C L s' H' ys its m hC hL hLC hns hHC hHL pl v z IX q
  have cne : ∀ a, s2.heap.objs.size ≤ a → ∀ x c, X.env.cells.lookup x = some c → c ≠ a := fun a ha x c e z => by
    obtain ⟨v, w⟩ := I2.cell x c e
    exact Nat.lt_irrefl _ (Nat.lt_of_lt_of_le w.lt (by rw [z]; exact ha))
  have pne : ∀ a, s2.heap.objs.size ≤ a → ∀ p ∈ X.pn ++ pins, p.1 ≠ a := fun a ha p hp z => Nat.lt_irrefl _ (Nat.lt_of_lt_of_le (Heap.lt_size (I2.pin p hp).1) (by rw [z]; exact ha))
  have lne : ∀ a, s2.heap.objs.size ≤ a → a ≠ X.env.locals := fun a ha z => Nat.lt_irrefl _ (Nat.lt_of_lt_of_le I2.lt (by rw [← z]; exact ha))
  have IT : Inv X pins σ (upd H' L (.lst ys)) s' := IX.track pl v z hHL (lne L hL) (Nat.le_trans I2.sz hL) (cne L hL) (pne L hL)
  show wpAny _ _ (assign (.Name y py) X.env (.ref L)) _ _ s'
  refine wpAny_assign_Name (store_ok2 IT hN hyi (.inl hx) (v := .ref L) rfl (fun s'' I'' hch => ?_) (.inr hx))
  obtain ⟨a, sb, ha⟩ := hch
  have hCa : C ≠ a := by
    rcases ha with e | e
    · rw [e]; exact lne C hC
    · exact Ne.symm (cne C hC y a e)
  refine ⟨m, hns.sameBut sb hCa, fun h' hs' => ⟨σ.set i (some (.ref L)), upd H' L (.lst ys), ?_, q L hHL⟩⟩
  exact I''.turned (t' := s''.toks) (it := C) (fun b o hb e => (hs'.2 b hb).trans e) (by rw [upd_ne (Ne.symm hLC)]; exact hHC) (lne C hC) (.inr (Nat.le_trans I2.sz hC)) (cne C hC) (pne C hC)
end

end L2
set_option Elab.async false
set_option linter.all false
set_option maxRecDepth 100000
namespace L2
open PySem PySem.Spec PyProof.Rows

inductive Kd where
  | int | bl | non | str | tup | lst | dct
  deriving DecidableEq
def KdV (K : PySem.W.Frag) (H : Hp) : V → Kd → Prop
  | .int _, k => k = .int
  | .bl _, k => k = .bl
  | .non, k => k = .non
  | .str _, k => k = .str
  | .ref p, k => (k = .lst ∧ ∃ xs, SqL K H p xs) ∨ (k = .tup ∧ ∃ xs, SqT K H p xs) ∨ (k = .dct ∧ ∃ kvs, H p = some (.dK kvs))
  | _, _ => False
section
variable {X : Cx}
theorem dK_cls {pins : List (Addr × Obj)} {σ : St} {H : Hp} {s : Shared} {p : Addr} {kvs : List (Key × V)} (I : Inv X pins σ H s) (h : H p = some (.dK kvs)) : ∃ o, s.heap.get? p = some o ∧ o.cls = .type "dict" := by
  obtain ⟨_, _, vs, _, o, es, ep, e, ex, _⟩ := I.hok p _ h
  exact ⟨o, e, ex.1⟩
theorem call_isi_int : CallR X (.builtin "isinstance") (fun xs H Q => ∃ x k, xs = [x, .ty "int"] ∧ KdV X.K H x k ∧ Q (.bl (decide (k = .int ∨ k = .bl))) H) := by
  intro pins s σ H xs us Q I r h
  obtain ⟨x, k, rfl, hk, q⟩ := h
  obtain ⟨u, t, rfl, rx, rt⟩ := vals2 r
  cases rt
  cases x with
  | int i => cases hk; obtain ⟨t, rfl⟩ := rx; exact IsiPair.int_int ⟨.bl true, H, I, rfl, q⟩
  | bl b => cases hk; cases rx; exact IsiPair.bool_int ⟨.bl true, H, I, rfl, q⟩
  | non => cases hk; cases rx; exact IsiPair.NoneType_int ⟨.bl false, H, I.tok _, rfl, q⟩
  | str y => cases hk; obtain ⟨t, rfl⟩ := rx; exact IsiPair.str_int ⟨.bl false, H, I.tok _, rfl, q⟩
  | ref p =>
    cases rx
    rcases hk with ⟨rfl, xs, hx⟩ | ⟨rfl, xs, hx⟩ | ⟨rfl, kvs, hx⟩
    · obtain ⟨its, r', pl, hz⟩ := I.list hx; exact IsiPair.isList_int pl.isList (fun _ _ e => e) ⟨.bl false, H, I.tok _, rfl, q⟩
    · obtain ⟨its, r', pl, hz⟩ := I.tuple hx; exact IsiPair.isTuple_int pl (fun _ _ e => e) ⟨.bl false, H, I.tok _, rfl, q⟩
    · obtain ⟨o, e, c⟩ := dK_cls I hx; exact IsiPair.dict_int e c ⟨.bl false, H, I.tok _, rfl, q⟩
  | _ => exact hk.elim
theorem call_isi_bool : CallR X (.builtin "isinstance") (fun xs H Q => ∃ x k, xs = [x, .ty "bool"] ∧ KdV X.K H x k ∧ Q (.bl (decide (k = .bl))) H) := by
  intro pins s σ H xs us Q I r h
  obtain ⟨x, k, rfl, hk, q⟩ := h
  obtain ⟨u, t, rfl, rx, rt⟩ := vals2 r
  cases rt
  cases x with
  | int i => cases hk; obtain ⟨t, rfl⟩ := rx; exact IsiPair.int_bool ⟨.bl false, H, I.tok _, rfl, q⟩
  | bl b => cases hk; cases rx; exact IsiPair.bool_bool ⟨.bl true, H, I, rfl, q⟩
  | non => cases hk; cases rx; exact IsiPair.NoneType_bool ⟨.bl false, H, I.tok _, rfl, q⟩
  | str y => cases hk; obtain ⟨t, rfl⟩ := rx; exact IsiPair.str_bool ⟨.bl false, H, I.tok _, rfl, q⟩
  | ref p =>
    cases rx
    rcases hk with ⟨rfl, xs, hx⟩ | ⟨rfl, xs, hx⟩ | ⟨rfl, kvs, hx⟩
    · obtain ⟨its, r', pl, hz⟩ := I.list hx; exact IsiPair.isList_bool pl.isList (fun _ _ e => e) ⟨.bl false, H, I.tok _, rfl, q⟩
    · obtain ⟨its, r', pl, hz⟩ := I.tuple hx; exact IsiPair.isTuple_bool pl (fun _ _ e => e) ⟨.bl false, H, I.tok _, rfl, q⟩
    · obtain ⟨o, e, c⟩ := dK_cls I hx; exact IsiPair.dict_bool e c ⟨.bl false, H, I.tok _, rfl, q⟩
  | _ => exact hk.elim
theorem call_isi_tuple : CallR X (.builtin "isinstance") (fun xs H Q => ∃ x k, xs = [x, .ty "tuple"] ∧ KdV X.K H x k ∧ Q (.bl (decide (k = .tup))) H) := by
  intro pins s σ H xs us Q I r h
  obtain ⟨x, k, rfl, hk, q⟩ := h
  obtain ⟨u, t, rfl, rx, rt⟩ := vals2 r
  cases rt
  cases x with
  | int i => cases hk; obtain ⟨t, rfl⟩ := rx; exact IsiPair.int_tuple ⟨.bl false, H, I.tok _, rfl, q⟩
  | bl b => cases hk; cases rx; exact IsiPair.bool_tuple ⟨.bl false, H, I.tok _, rfl, q⟩
  | non => cases hk; cases rx; exact IsiPair.NoneType_tuple ⟨.bl false, H, I.tok _, rfl, q⟩
  | str y => cases hk; obtain ⟨t, rfl⟩ := rx; exact IsiPair.str_tuple ⟨.bl false, H, I.tok _, rfl, q⟩
  | ref p =>
    cases rx
    rcases hk with ⟨rfl, xs, hx⟩ | ⟨rfl, xs, hx⟩ | ⟨rfl, kvs, hx⟩
    · obtain ⟨its, r', pl, hz⟩ := I.list hx; exact IsiPair.isList_tuple pl.isList (fun _ _ e => e) ⟨.bl false, H, I.tok _, rfl, q⟩
    · obtain ⟨its, r', pl, hz⟩ := I.tuple hx; exact IsiPair.isTuple_tuple pl (fun _ _ e => e) ⟨.bl true, H, I, rfl, q⟩
    · obtain ⟨o, e, c⟩ := dK_cls I hx; exact IsiPair.dict_tuple e c ⟨.bl false, H, I.tok _, rfl, q⟩
  | _ => exact hk.elim
theorem all_range (bs : List Bool) (tr : Nat → Bool) (h : ∀ i b, bs[i]? = some b → tr i = b) : (List.range bs.length).all tr = bs.all id := by
  rw [Bool.eq_iff_iff, List.all_eq_true, List.all_eq_true]
  constructor
  · intro q b hb
    obtain ⟨i, hi⟩ := List.getElem?_of_mem hb
    have := q i (List.mem_range.mpr (List.getElem?_eq_some_iff.mp hi).1)
    rw [h i b hi] at this
    exact this
  · intro q i hi
    have hi' := List.mem_range.mp hi
    have e : bs[i]? = some bs[i] := List.getElem?_eq_getElem hi'
    rw [h i _ e]
    exact q _ (List.getElem_mem hi')
theorem call_all (hc : X.calm = true) : CallR X (.builtin "all") (fun xs H Q => ∃ (p : Addr) (bs : List Bool), xs = [.ref p] ∧ SqL X.K H p (bs.map V.bl) ∧ Q (.bl (bs.all id)) H) := by
  intro pins s σ H xs us Q I r h
  obtain ⟨p, bs, rfl, hx, q⟩ := h
  obtain ⟨u, rfl, rx⟩ := vals1 r
  cases rx
  obtain ⟨its, rv, pl, hz⟩ := I.list hx
  have hl := rv.length
  rw [List.length_map] at hl
  have hlt : p < s.heap.objs.size := by obtain ⟨o, n, e, _⟩ := pl; exact Heap.lt_size e
  refine call_all_walk (wpAny_pyIter_list pl.isList ?_)
  refine ⟨s.heap.objs.size, _, _, _, _, _, fun i => (bs[i]?).getD false, rfl, Walks.list (A := X.A.in1) (I.ok.hd hc) s.heap.objs.size p (Nat.ne_of_lt hlt) its.toArray, ⟨⟨_, Heap.get?_push_size _ rfl, rfl, rfl⟩, pl.isList.push _⟩, ?_, fun h' tk hk => ?_⟩
  · intro i v s' Q' E' hP hQ'
    have hP' : its[i]? = some v := by simpa using hP
    have hi : i < bs.length := by rw [hl]; exact (List.getElem?_eq_some_iff.mp hP').1
    obtain ⟨w, hw, rw'⟩ := rv.get (i := i) (x := .bl bs[i]) (by rw [List.getElem?_map, List.getElem?_eq_getElem hi]; rfl)
    rw [hw] at hP'
    cases hP'
    cases rw'
    have e : (bs[i]?).getD false = bs[i] := by rw [List.getElem?_eq_getElem hi]; rfl
    rw [← e]
    exact wpAny_truthy_bool hQ'
  · have e : (List.range its.toArray.size).all (fun i => (bs[i]?).getD false) = bs.all id := by
      rw [List.size_toArray, ← hl]
      exact all_range bs _ fun i b hb => by rw [hb]; rfl
    rw [e]
    refine ⟨.bl _, H, I.kept (h' := h') fun b o e => hk b o ?_ (Heap.get?_push_of_some _ e), rfl, q⟩
    intro z
    have z' : b = s.heap.objs.size := by simpa using z
    exact Nat.lt_irrefl _ (z' ▸ Heap.lt_size e)
end
end L2
set_option Elab.async false
set_option linter.all false
set_option maxRecDepth 100000
namespace L2
open PySem PySem.Spec PyProof.Rows

mutual
def Den (K : PySem.W.Frag) (H : Hp) : PyData → V → Prop
  | .none, v => v = .non
  | .bool b, v => v = .bl b
  | .int i, v => v = .int i
  | .str x, v => v = .str x
  | .list ds, v => ∃ a xs, v = .ref a ∧ SqL K H a xs ∧ DenAll K H ds xs
  | .tuple ds, v => ∃ a xs, v = .ref a ∧ SqT K H a xs ∧ DenAll K H ds xs
  | .dict kvs, v => kvs = [] ∧ ∃ a, v = .ref a ∧ H a = some (.dK [])
def DenAll (K : PySem.W.Frag) (H : Hp) : List PyData → List V → Prop
  | [], xs => xs = []
  | d :: ds, xs => ∃ x r, xs = x :: r ∧ Den K H d x ∧ DenAll K H ds r
end
theorem Same.rd {H H' : Hp} {a : Addr} {u : HO} (e : Same H H') (h : Rd H a u) : Rd H' a u := by
  rcases h with h | ⟨o, h⟩
  · exact .inl (e a u h)
  · exact .inr ⟨o, e a _ h⟩
theorem Same.seqL {K : PySem.W.Frag} {H H' : Hp} {a : Addr} {xs : List V} (e : Same H H') (h : SqL K H a xs) : SqL K H' a xs := by
  rcases h with h | h
  · exact .inl (e.rd h)
  · exact .inr h
theorem Same.seqT {K : PySem.W.Frag} {H H' : Hp} {a : Addr} {xs : List V} (e : Same H H') (h : SqT K H a xs) : SqT K H' a xs := by
  rcases h with h | h
  · exact .inl (e.rd h)
  · exact .inr h
theorem Same.new {H : Hp} {p : Addr} {o : HO} (h : H p = none) : Same H (upd H p o) := fun b u e => by rw [upd_ne (ne_of_none e h)]; exact e
mutual
theorem Same.den {K : PySem.W.Frag} {H H' : Hp} (e : Same H H') : ∀ (d : PyData) (v : V), Den K H d v → Den K H' d v
  | .none, v, h => by unfold Den at h ⊢; exact h
  | .bool b, v, h => by unfold Den at h ⊢; exact h
  | .int i, v, h => by unfold Den at h ⊢; exact h
  | .str x, v, h => by unfold Den at h ⊢; exact h
  | .list ds, v, h => by unfold Den at h ⊢; obtain ⟨a, xs, h1, h2, h3⟩ := h; exact ⟨a, xs, h1, e.seqL h2, Same.denAll e ds xs h3⟩
  | .tuple ds, v, h => by unfold Den at h ⊢; obtain ⟨a, xs, h1, h2, h3⟩ := h; exact ⟨a, xs, h1, e.seqT h2, Same.denAll e ds xs h3⟩
  | .dict kvs, v, h => by unfold Den at h ⊢; obtain ⟨h1, a, h2, h3⟩ := h; exact ⟨h1, a, h2, e a _ h3⟩
theorem Same.denAll {K : PySem.W.Frag} {H H' : Hp} (e : Same H H') : ∀ (ds : List PyData) (xs : List V), DenAll K H ds xs → DenAll K H' ds xs
  | [], xs, h => by unfold DenAll at h ⊢; exact h
  | d :: ds, xs, h => by unfold DenAll at h ⊢; obtain ⟨x, r, h1, h2, h3⟩ := h; exact ⟨x, r, h1, Same.den e d x h2, Same.denAll e ds r h3⟩
end
section
variable {K : PySem.W.Frag} {H : Hp}
theorem den_int {i : Int} {v : V} : Den K H (.int i) v ↔ v = .int i := by unfold Den; exact Iff.rfl
theorem den_bool {b : Bool} {v : V} : Den K H (.bool b) v ↔ v = .bl b := by unfold Den; exact Iff.rfl
theorem den_none {v : V} : Den K H .none v ↔ v = .non := by unfold Den; exact Iff.rfl
theorem den_str {x : Str} {v : V} : Den K H (.str x) v ↔ v = .str x := by unfold Den; exact Iff.rfl
theorem den_list {ds : List PyData} {v : V} : Den K H (.list ds) v ↔ ∃ a xs, v = .ref a ∧ SqL K H a xs ∧ DenAll K H ds xs := by
  constructor
  · intro h; unfold Den at h; exact h
  · intro h; unfold Den; exact h
theorem den_tuple {ds : List PyData} {v : V} : Den K H (.tuple ds) v ↔ ∃ a xs, v = .ref a ∧ SqT K H a xs ∧ DenAll K H ds xs := by
  constructor
  · intro h; unfold Den at h; exact h
  · intro h; unfold Den; exact h
theorem den_dict {kvs : List (PyData × PyData)} {v : V} : Den K H (.dict kvs) v ↔ kvs = [] ∧ ∃ a, v = .ref a ∧ H a = some (.dK []) := by
  constructor
  · intro h; unfold Den at h; exact h
  · intro h; unfold Den; exact h
theorem denAll_nil {xs : List V} : DenAll K H [] xs ↔ xs = [] := by unfold DenAll; exact Iff.rfl
theorem denAll_cons {d : PyData} {ds : List PyData} {xs : List V} : DenAll K H (d :: ds) xs ↔ ∃ x r, xs = x :: r ∧ Den K H d x ∧ DenAll K H ds r := by
  constructor
  · intro h; unfold DenAll at h; exact h
  · intro h; unfold DenAll; exact h
theorem denAll_length : ∀ {ds : List PyData} {xs : List V}, DenAll K H ds xs → xs.length = ds.length
  | [], xs, h => by rw [denAll_nil.mp h]; rfl
  | d :: ds, xs, h => by
    obtain ⟨x, r, rfl, _, h3⟩ := denAll_cons.mp h
    rw [List.length_cons, List.length_cons, denAll_length h3]
theorem denAll_get : ∀ {ds : List PyData} {xs : List V} {i : Nat} {d : PyData}, DenAll K H ds xs → ds[i]? = some d → ∃ x, xs[i]? = some x ∧ Den K H d x
  | [], _, _, _, _, e => by simp at e
  | d :: ds, xs, 0, d', h, e => by
    obtain ⟨x, r, rfl, h2, _⟩ := denAll_cons.mp h
    simp at e; subst e
    exact ⟨x, rfl, h2⟩
  | d :: ds, xs, i + 1, d', h, e => by
    obtain ⟨x, r, rfl, _, h3⟩ := denAll_cons.mp h
    obtain ⟨y, h4, h5⟩ := denAll_get (i := i) (d := d') h3 (by simpa using e)
    exact ⟨y, by simpa using h4, h5⟩
theorem denAll_at {ds : List PyData} {xs : List V} {i : Nat} {x : V} (h : DenAll K H ds xs) (e : xs[i]? = some x) : ∃ d, ds[i]? = some d ∧ Den K H d x := by
  have hl := denAll_length h
  have hi : i < ds.length := by rw [← hl]; exact (List.getElem?_eq_some_iff.mp e).1
  obtain ⟨y, h1, h2⟩ := denAll_get h (List.getElem?_eq_getElem hi)
  rw [e] at h1; cases h1
  exact ⟨_, List.getElem?_eq_getElem hi, h2⟩
theorem denAll_append : ∀ {ds es : List PyData} {xs ys : List V}, DenAll K H ds xs → DenAll K H es ys → DenAll K H (ds ++ es) (xs ++ ys)
  | [], es, xs, ys, h, h' => by rw [denAll_nil.mp h]; exact h'
  | d :: ds, es, xs, ys, h, h' => by
    obtain ⟨x, r, rfl, h2, h3⟩ := denAll_cons.mp h
    exact denAll_cons.mpr ⟨x, r ++ ys, rfl, h2, denAll_append h3 h'⟩
theorem denAll_ints : ∀ {ns : List Int} {xs : List V}, DenAll K H (ns.map PyData.int) xs ↔ xs = ns.map V.int
  | [], xs => denAll_nil
  | n :: ns, xs => by
    rw [List.map_cons, denAll_cons]
    constructor
    · rintro ⟨x, r, rfl, h2, h3⟩
      rw [den_int.mp h2, denAll_ints.mp h3]
      rfl
    · intro e
      exact ⟨_, _, e, den_int.mpr rfl, denAll_ints.mpr rfl⟩
theorem den_tints {ns : List Int} {v : V} : Den K H (.tuple (ns.map .int)) v ↔ ∃ a, v = .ref a ∧ SqT K H a (ns.map V.int) := by
  rw [den_tuple]
  constructor
  · rintro ⟨a, xs, rfl, h1, h2⟩
    rw [denAll_ints.mp h2] at h1
    exact ⟨a, rfl, h1⟩
  · rintro ⟨a, rfl, h⟩
    exact ⟨a, _, rfl, h, denAll_ints.mpr rfl⟩
def kdOf : PyData → Kd
  | .none => .non | .bool _ => .bl | .int _ => .int | .str _ => .str | .list _ => .lst | .tuple _ => .tup | .dict _ => .dct
theorem Den.kd {d : PyData} {v : V} (h : Den K H d v) : KdV K H v (kdOf d) := by
  cases d with
  | none => rw [den_none.mp h]; rfl
  | bool b => rw [den_bool.mp h]; rfl
  | int i => rw [den_int.mp h]; rfl
  | str x => rw [den_str.mp h]; rfl
  | list ds => obtain ⟨a, xs, rfl, h1, _⟩ := den_list.mp h; exact .inl ⟨rfl, xs, h1⟩
  | tuple ds => obtain ⟨a, xs, rfl, h1, _⟩ := den_tuple.mp h; exact .inr (.inl ⟨rfl, xs, h1⟩)
  | dict kvs => obtain ⟨_, a, rfl, h1⟩ := den_dict.mp h; exact .inr (.inr ⟨rfl, [], h1⟩)
end

section
variable {X : Cx} {pins : List (Addr × Obj)} {σ : St} {H : Hp} {s : Shared}
mutual
def noDict : PyData → Bool
  | .dict _ => false
  | .list ds => noDicts ds
  | .tuple ds => noDicts ds
  | _ => true
def noDicts : List PyData → Bool
  | [] => true
  | d :: ds => noDict d && noDicts ds
end
mutual
theorem Den.reads (I : Inv X pins σ H s) : ∀ (d : PyData) (v : V) (u : Value), noDict d = true → Den X.K H d v → RelV v u → ∃ as, Reads s.heap u d as
  | .none, v, u, _, h, r => by rw [den_none.mp h] at r; cases r; exact ⟨_, .none⟩
  | .bool b, v, u, _, h, r => by rw [den_bool.mp h] at r; cases r; exact ⟨_, .bool b⟩
  | .int i, v, u, _, h, r => by rw [den_int.mp h] at r; obtain ⟨t, rfl⟩ := r; exact ⟨_, .int i t⟩
  | .str x, v, u, _, h, r => by rw [den_str.mp h] at r; obtain ⟨t, rfl⟩ := r; exact ⟨_, .str x t⟩
  | .list ds, v, u, hn, h, r => by
    obtain ⟨a, xs, rfl, h1, h2⟩ := den_list.mp h
    cases r
    obtain ⟨its, rv, ⟨o, n, e, c, _, d⟩, _⟩ := I.list h1
    obtain ⟨as, ra⟩ := DenAll.reads I ds xs its (by unfold noDict at hn; exact hn) h2 rv
    exact ⟨_, .list e c d (by simpa using ra)⟩
  | .tuple ds, v, u, hn, h, r => by
    obtain ⟨a, xs, rfl, h1, h2⟩ := den_tuple.mp h
    cases r
    obtain ⟨its, rv, ⟨o, e, c, n, d⟩, _⟩ := I.tuple h1
    obtain ⟨as, ra⟩ := DenAll.reads I ds xs its (by unfold noDict at hn; exact hn) h2 rv
    exact ⟨_, .tuple e c d (by simpa using ra)⟩
  | .dict kvs, v, u, hn, _, _ => by unfold noDict at hn; cases hn
theorem DenAll.reads (I : Inv X pins σ H s) : ∀ (ds : List PyData) (xs : List V) (us : List Value), noDicts ds = true → DenAll X.K H ds xs → Vals xs us → ∃ as, ReadsAll s.heap us ds as
  | [], xs, us, _, h, r => by rw [denAll_nil.mp h] at r; cases r; exact ⟨_, .nil⟩
  | d :: ds, xs, us, hn, h, r => by
    obtain ⟨x, rr, rfl, h2, h3⟩ := denAll_cons.mp h
    unfold noDicts at hn
    rw [Bool.and_eq_true] at hn
    cases r with
    | cons r1 r2 =>
      obtain ⟨as, ra⟩ := Den.reads I d x _ hn.1 h2 r1
      obtain ⟨bs, rb⟩ := DenAll.reads I ds rr _ hn.2 h3 r2
      exact ⟨_, .cons ra rb⟩
end
theorem op_eqD (hu : X.A.units + 64 < cLine) : OpR X (compareOp .Eq) (fun x y H Q => ∃ d e, Den X.K H d x ∧ Den X.K H e y ∧ noDict d = true ∧ noDict e = true ∧ SeqAt.shaped d = true ∧ SeqAt.shaped e = true ∧ Q (.bl (PyData.eqv d e)) H) := by
  intro pins s σ H x y v u Q I rx ry h
  obtain ⟨d, e, hd, he, n1, n2, s1, s2, q⟩ := h
  obtain ⟨as, ra⟩ := Den.reads I d x v n1 hd rx
  obtain ⟨bs, rb⟩ := Den.reads I e y u n2 he ry
  exact eq_dataH ra rb s1 s2 hu ⟨.bl _, H, I, rfl, q⟩
theorem op_neD (hu : X.A.units + 64 < cLine) : OpR X (compareOp .NotEq) (fun x y H Q => ∃ d e, Den X.K H d x ∧ Den X.K H e y ∧ noDict d = true ∧ noDict e = true ∧ SeqAt.shaped d = true ∧ SeqAt.shaped e = true ∧ Q (.bl (!PyData.eqv d e)) H) := by
  intro pins s σ H x y v u Q I rx ry h
  obtain ⟨d, e, hd, he, n1, n2, s1, s2, q⟩ := h
  obtain ⟨as, ra⟩ := Den.reads I d x v n1 hd rx
  obtain ⟨bs, rb⟩ := Den.reads I e y u n2 he ry
  exact ne_dataH ra rb s1 s2 hu ⟨.bl _, H, I, rfl, q⟩
end
end L2
set_option Elab.async false
set_option linter.all false
set_option maxRecDepth 100000
namespace L2
open PySem PySem.Spec PyProof.Rows

section
variable {prog : Program} {w : World} {A : Around} {E : Value → Shared → Prop} {s : Shared}
end

section
variable {X : Cx}
end
end L2
set_option Elab.async false
set_option linter.all false
set_option maxRecDepth 100000
namespace L2
open PySem PySem.Spec PyProof.Rows

def tab (L : Bool) (ns : List Nat) : SetTable := { mask := 7, place := ns.toArray, dummies := #[], finger := 0, led := L, moves := 0, plain := true }
def elts (l : List (Nat × Tok)) : Array (Int × Value) := (l.map fun p => ((p.1 : Int), Value.int (p.1 : Int) p.2)).toArray
theorem pt2 : ∀ (L : Bool) (k j : Fin 8), j < k → (tab L [k.val]).put j.val = (tab L [j.val, k.val], 0) := by decide +kernel
def SX (L : Bool) (h : Heap) (a : Addr) (l : List (Nat × Tok)) : Prop := ∃ o ep, h.get? a = some o ∧ o.ExactSet ∧ o.data = .set (elts l) ep (tab L (l.map (·.1)))
section
variable {prog : Program} {w : World} {A : Around} {E : Value → Shared → Prop} {s : Shared} {L : Bool} {a : Addr}
end
end L2
set_option Elab.async false
set_option linter.all false
set_option maxRecDepth 100000
namespace L2
open PySem PySem.Spec PyProof.Rows
section
variable {prog : Program} {w : World} {A : Around} {E : Value → Shared → Prop} {s : Shared}
abbrev Led (w : World) : Bool := !(w.params.followText "set-order")
def two (a b : Nat) (t u : Tok) : List (Nat × Tok) := if a = b then [(a, t)] else if a < b then [(a, t), (b, u)] else [(b, u), (a, t)]
theorem SX.keep {L : Bool} {h h' : Heap} {a : Addr} {l : List (Nat × Tok)} (x : SX L h a l) (k : ∀ o, h.get? a = some o → h'.get? a = some o) : SX L h' a l := by
  obtain ⟨o, ep, e, r⟩ := x
  exact ⟨o, ep, k o e, r⟩
end
end L2
set_option Elab.async false
set_option linter.all false
set_option maxRecDepth 100000
namespace L2
open PySem PySem.Spec PyProof.Rows
section
variable {prog : Program} {w : World} {A : Around} {E : Value → Shared → Prop} {s : Shared} {S : Addr} {o : Obj} {ep : Nat} {l : List (Nat × Tok)}
end
end L2
set_option Elab.async false
set_option linter.all false
set_option maxRecDepth 100000
namespace L2
open PySem PySem.Spec PyProof.Rows
section
variable {prog : Program} {w : World} {A : Around} {E : Value → Shared → Prop} {s : Shared} {S : Addr} {o : Obj} {ep : Nat} {l : List (Nat × Tok)}
end
end L2
set_option Elab.async false
set_option linter.all false
set_option maxRecDepth 100000
namespace L2
open PySem PySem.Spec PyProof.Rows
def SetO (w : World) (p : Addr) (a b : Nat) : HO := .ext fun h => ∃ t u, SX (Led w) h p (two a b t u)
section
variable {X : Cx}
end
end L2
set_option Elab.async false
set_option linter.all false
set_option maxRecDepth 100000
namespace L2
open PySem PySem.Spec PyProof.Rows

structure Sub (prog : Program) (w : World) (i l : Addr) (n : Nat) (P : Nat → Value → Prop) (st : Nat → Heap → Prop) : Prop where
  keep : ∀ k h h', st k h → (∀ b, b = i ∨ b = l → ∀ o, h.get? b = some o → h'.get? b = some o) → st k h'
  obj : ∀ k h, st k h → (∃ o, h.get? i = some o ∧ ∀ v, o.data ≠ .cell v) ∧ ∃ o, h.get? l = some o
  item : ∀ (A : Around) k (s : Shared) (Q : Value → Shared → Prop) (E : Value → Shared → Prop), k < n → st k s.heap → (∀ v h', P k v → st (k + 1) h' → Heap.SameBut i s.heap h' → Q v { s with heap := h' }) → wpAny (model prog w) A (Builtin.SmallTypes.nextOf (.ref i)) Q E s
  done : ∀ (A : Around) (s : Shared) (Q : Value → Shared → Prop) (E : Value → Shared → Prop), A.handled = none → st n s.heap → (∀ h' e, Heap.ExtBut i s.heap h' → (∃ o, h'.get? e = some o ∧ o.cls = .type "StopIteration") → E (.ref e) { s with heap := h' }) →
    wpAny (model prog w) A (Builtin.SmallTypes.nextOf (.ref i)) Q E s
section
variable {prog : Program} {w : World} {A : Around} {E : Value → Shared → Prop} {s : Shared} {z TI TO i1 i2 l1 l2 : Addr} {n1 n2 : Nat} {P1 P2 : Nat → Value → Prop} {st1 st2 : Nat → Heap → Prop}
end
end L2
set_option Elab.async false
set_option linter.all false
set_option maxRecDepth 100000
namespace L2
open PySem PySem.Spec PyProof.Rows
inductive Sk where
  | l | t
def AtK (k : Sk) (h : Heap) (a : Addr) (its : Array Value) : Prop := match k with | .l => h.IsList a its | .t => h.IsTuple a its
def ItK (k : Sk) (h : Heap) (i a : Addr) (n : Nat) : Prop := match k with | .l => h.IsListIter i a n | .t => h.IsTupleIter i a n
def itK (k : Sk) (a : Addr) : Obj := match k with | .l => { cls := .type "list_iterator", data := .fields #[.ref a, .int 0 0] } | .t => { cls := .type "tuple_iterator", data := .fields #[.ref a, .int 0 0] }
theorem ItK.new (k : Sk) (h : Heap) (a : Addr) : ItK k (h.push (itK k a)) h.objs.size a 0 := by
  cases k
  · exact ⟨_, Heap.get?_push_size _ rfl, rfl, rfl⟩
  · exact ⟨_, Heap.get?_push_size _ rfl, rfl, rfl⟩
theorem ItK.obj {k : Sk} {h : Heap} {i a : Addr} {n : Nat} (x : ItK k h i a n) : ∃ o, h.get? i = some o ∧ ∀ v, o.data ≠ .cell v := by
  cases k
  · obtain ⟨o, e, _, d⟩ := x; exact ⟨o, e, fun v z => by rw [d] at z; cases z⟩
  · obtain ⟨o, e, _, d⟩ := x; exact ⟨o, e, fun v z => by rw [d] at z; cases z⟩
theorem ItK.at {k : Sk} {h h' : Heap} {i a : Addr} {n : Nat} (x : ItK k h i a n) (kp : ∀ o, h.get? i = some o → h'.get? i = some o) : ItK k h' i a n := by
  cases k
  · exact Heap.IsListIter.at x kp
  · exact Heap.IsTupleIter.at x kp
theorem AtK.at {k : Sk} {h h' : Heap} {a : Addr} {its : Array Value} (x : AtK k h a its) (kp : ∀ o, h.get? a = some o → h'.get? a = some o) : AtK k h' a its := by
  cases k
  · exact Heap.IsList.at x kp
  · obtain ⟨o, e, r⟩ := x; exact ⟨o, kp o e, r⟩
section
variable {X : Cx} {pins : List (Addr × Obj)} {σ : St} {H : Hp} {s : Shared}
end

section
variable {X : Cx} {es : List Expr} {x1 : Nat} {tpos : Pos}
end
end L2
set_option Elab.async false
set_option linter.all false
set_option maxRecDepth 100000
namespace L2
open PySem PySem.Spec PyProof.Rows
open PySem.AutoSeq1 (wpAny_loadPart')
section
variable {X : Cx}
end
end L2
set_option Elab.async false
set_option linter.all false
set_option maxRecDepth 100000
namespace L2
open PySem PySem.Spec PyProof.Rows
def ixCheck (N frn : List Str) (fr : List Nat) : Bool := frn.length == fr.length && (frn.zip fr).all fun y => N[y.2]? == some y.1
theorem compOk_of {X : Cx} {scope : Scope} {own frn : List Str} {fr : List Nat} (sc : Scope) (N : List Str) (h1 : X.env.scope = sc) (h2 : X.N = N) (h : (compCheck sc scope own frn && ixCheck N frn fr) = true) : CompOk X scope own fr frn := by
  rw [Bool.and_eq_true] at h
  obtain ⟨ha, hb⟩ := h
  unfold ixCheck at hb
  simp only [Bool.and_eq_true, beq_iff_eq, List.all_eq_true] at hb
  refine ⟨by rw [h1]; exact ha, fun k x hk => ?_, hb.1.symm⟩
  have hlt : k < fr.length := by rw [← hb.1]; exact (List.getElem?_eq_some_iff.mp hk).1
  refine ⟨fr[k], List.getElem?_eq_getElem hlt, ?_⟩
  have hm : (x, fr[k]) ∈ frn.zip fr := by
    refine List.mem_of_getElem? (i := k) ?_
    rw [List.getElem?_zip_eq_some]
    exact ⟨hk, List.getElem?_eq_getElem hlt⟩
  rw [h2]
  exact hb.2 _ hm
section
variable {J : It} {own : Nat} {fr : List Nat} {g : TG} {tt : TT} {te : TE} {σ : St} {H : Hp} {Q : Hp → List V → Prop}
theorem comp_it (n : Nat) (hn : n ≤ sizeLine) (SH : St → Prop) (Pv : Nat → List V → Hp → Prop) (hσ : SH (blk own fr σ)) (h0 : Pv 0 [] H) (hlen : ∀ i ys H, Pv i ys H → ys.length ≤ i)
    (hstop : ∀ ys H, Pv n ys H → J.stop n H) (hgo : ∀ i ys H, i < n → Pv i ys H → J.go i H)
    (hs : ∀ i ys σ x H H', i < n → SH σ → Pv i ys H → J.yld i H x H' → ys.length < sizeLine → g x σ H' fun σ2 H2 => tt σ2 H2 fun b H3 => if b = true then te σ2 H3 fun y H4 => ys.length < sizeLine ∧ SH σ2 ∧ Pv (i + 1) (ys ++ [y]) H4 else SH σ2 ∧ Pv (i + 1) ys H3)
    (hd : ∀ ys H, Pv n ys H → Q H ys) :
    ∃ W : Nat → Nat → List V → St → Hp → Prop, (∃ m, W 0 m [] (blk own fr σ) H) ∧ ∀ i m ys σ' H, W i m ys σ' H →
      (J.stop i H ∧ Q H ys) ∨
      (J.go i H ∧ ∃ N : List V → St → Hp → Prop, (∀ ys' σ2 H2, N ys' σ2 H2 → ∃ m', m' < m ∧ W (i + 1) m' ys' σ2 H2) ∧
        ∀ x H', J.yld i H x H' → g x σ' H' fun σ2 H2 => tt σ2 H2 fun b H3 => if b = true then te σ2 H3 fun y H4 => ys.length < sizeLine ∧ N (ys ++ [y]) σ2 H4 else N ys σ2 H3) := by
  refine ⟨fun i m ys σ' H => m = n - i ∧ i ≤ n ∧ SH σ' ∧ Pv i ys H, ⟨n, by simp, Nat.zero_le _, hσ, h0⟩, ?_⟩
  rintro i m ys σ' H ⟨rfl, hi, sh, p⟩
  by_cases hlt : i < n
  · refine .inr ⟨hgo i ys H hlt p, fun ys' σ2 H2 => SH σ2 ∧ Pv (i + 1) ys' H2, fun ys' σ2 H2 ⟨e, q⟩ => ⟨n - (i + 1), by omega, rfl, hlt, e, q⟩, fun x H' y => ?_⟩
    exact hs i ys σ' x H H' hlt sh p y (by have := hlen i ys H p; omega)
  · have e : i = n := by omega
    subst e
    exact .inl ⟨hstop ys H p, hd ys H p⟩
theorem comp_tup {K : PySem.W.Frag} {a : Addr} {xs : List V} (SH : St → Prop) (Pv : Nat → List V → Hp → Prop) (hn : xs.length ≤ sizeLine) (hσ : SH (blk own fr σ)) (h0 : Pv 0 [] H) (hlen : ∀ i ys H, Pv i ys H → ys.length ≤ i) (hl : ∀ i ys H, Pv i ys H → SqT K H a xs)
    (hs : ∀ i ys σ x H, xs[i]? = some x → SH σ → Pv i ys H → ys.length < sizeLine → g x σ H fun σ2 H2 => tt σ2 H2 fun b H3 => if b = true then te σ2 H3 fun y H4 => ys.length < sizeLine ∧ SH σ2 ∧ Pv (i + 1) (ys ++ [y]) H4 else SH σ2 ∧ Pv (i + 1) ys H3)
    (hd : ∀ ys H, Pv xs.length ys H → Q H ys) :
    ∃ W : Nat → Nat → List V → St → Hp → Prop, (∃ m, W 0 m [] (blk own fr σ) H) ∧ ∀ i m ys σ' H, W i m ys σ' H →
      ((Itt K a).stop i H ∧ Q H ys) ∨
      ((Itt K a).go i H ∧ ∃ N : List V → St → Hp → Prop, (∀ ys' σ2 H2, N ys' σ2 H2 → ∃ m', m' < m ∧ W (i + 1) m' ys' σ2 H2) ∧
        ∀ x H', (Itt K a).yld i H x H' → g x σ' H' fun σ2 H2 => tt σ2 H2 fun b H3 => if b = true then te σ2 H3 fun y H4 => ys.length < sizeLine ∧ N (ys ++ [y]) σ2 H4 else N ys σ2 H3) := by
  refine comp_it xs.length hn SH Pv hσ h0 hlen (fun ys H p => ⟨xs, hl _ _ _ p, Nat.le_refl _⟩) (fun i ys H hi p => ⟨xs, xs[i], hl _ _ _ p, List.getElem?_eq_getElem hi⟩) (fun i ys σ x H H' hi sh p y hz => ?_) hd
  obtain ⟨e, y⟩ := y
  subst e
  exact hs i ys σ x _ (y xs (hl _ _ _ p)) sh p hz
theorem comp_list {K : PySem.W.Frag} {a : Addr} {xs : List V} (SH : St → Prop) (Pv : Nat → List V → Hp → Prop) (hn : xs.length ≤ sizeLine) (hσ : SH (blk own fr σ)) (h0 : Pv 0 [] H) (hlen : ∀ i ys H, Pv i ys H → ys.length ≤ i) (hl : ∀ i ys H, Pv i ys H → SqL K H a xs)
    (hs : ∀ i ys σ x H, xs[i]? = some x → SH σ → Pv i ys H → ys.length < sizeLine → g x σ H fun σ2 H2 => tt σ2 H2 fun b H3 => if b = true then te σ2 H3 fun y H4 => ys.length < sizeLine ∧ SH σ2 ∧ Pv (i + 1) (ys ++ [y]) H4 else SH σ2 ∧ Pv (i + 1) ys H3)
    (hd : ∀ ys H, Pv xs.length ys H → Q H ys) :
    ∃ W : Nat → Nat → List V → St → Hp → Prop, (∃ m, W 0 m [] (blk own fr σ) H) ∧ ∀ i m ys σ' H, W i m ys σ' H →
      ((Itl K a).stop i H ∧ Q H ys) ∨
      ((Itl K a).go i H ∧ ∃ N : List V → St → Hp → Prop, (∀ ys' σ2 H2, N ys' σ2 H2 → ∃ m', m' < m ∧ W (i + 1) m' ys' σ2 H2) ∧
        ∀ x H', (Itl K a).yld i H x H' → g x σ' H' fun σ2 H2 => tt σ2 H2 fun b H3 => if b = true then te σ2 H3 fun y H4 => ys.length < sizeLine ∧ N (ys ++ [y]) σ2 H4 else N ys σ2 H3) := by
  refine comp_it xs.length hn SH Pv hσ h0 hlen (fun ys H p => ⟨xs, hl _ _ _ p, Nat.le_refl _⟩) (fun i ys H hi p => ⟨xs, xs[i], hl _ _ _ p, List.getElem?_eq_getElem hi⟩) (fun i ys σ x H H' hi sh p y hz => ?_) hd
  obtain ⟨e, y⟩ := y
  subst e
  exact hs i ys σ x _ (y xs (hl _ _ _ p)) sh p hz
theorem comp_range {lo : Int} {n : Nat} (SH : St → Prop) (Pv : Nat → List V → Hp → Prop) (hn : n ≤ sizeLine) (hσ : SH (blk own fr σ)) (h0 : Pv 0 [] H) (hlen : ∀ i ys H, Pv i ys H → ys.length ≤ i)
    (hs : ∀ i ys σ H, i < n → SH σ → Pv i ys H → ys.length < sizeLine → g (.int (lo + i)) σ H fun σ2 H2 => tt σ2 H2 fun b H3 => if b = true then te σ2 H3 fun y H4 => ys.length < sizeLine ∧ SH σ2 ∧ Pv (i + 1) (ys ++ [y]) H4 else SH σ2 ∧ Pv (i + 1) ys H3)
    (hd : ∀ ys H, Pv n ys H → Q H ys) :
    ∃ W : Nat → Nat → List V → St → Hp → Prop, (∃ m, W 0 m [] (blk own fr σ) H) ∧ ∀ i m ys σ' H, W i m ys σ' H →
      ((Itr lo n).stop i H ∧ Q H ys) ∨
      ((Itr lo n).go i H ∧ ∃ N : List V → St → Hp → Prop, (∀ ys' σ2 H2, N ys' σ2 H2 → ∃ m', m' < m ∧ W (i + 1) m' ys' σ2 H2) ∧
        ∀ x H', (Itr lo n).yld i H x H' → g x σ' H' fun σ2 H2 => tt σ2 H2 fun b H3 => if b = true then te σ2 H3 fun y H4 => ys.length < sizeLine ∧ N (ys ++ [y]) σ2 H4 else N ys σ2 H3) := by
  refine comp_it n hn SH Pv hσ h0 hlen (fun ys H p => Nat.le_refl _) (fun i ys H hi p => hi) (fun i ys σ x H H' hi sh p y hz => ?_) hd
  obtain ⟨e, y⟩ := y
  subst e y
  exact hs i ys σ _ hi sh p hz
end
end L2
set_option Elab.async false
set_option linter.all false
set_option maxRecDepth 100000
namespace L2
open PySem PySem.Spec PyProof.Rows
section
variable {X : Cx}
end
end L2
set_option Elab.async false
set_option linter.all false
set_option maxRecDepth 100000
namespace L2
open PySem PySem.Spec PyProof.Rows
def Vw (S : List Addr) (H : Hp) : Hp := fun b => if b ∈ S then none else H b
theorem Vw.out {S : List Addr} {H : Hp} {b : Addr} (n : b ∉ S) : Vw S H b = H b := by unfold Vw; rw [if_neg n]
theorem Vw.sub {S : List Addr} {H : Hp} : Same (Vw S H) H := fun b o h => by
  by_cases z : b ∈ S
  · unfold Vw at h; rw [if_pos z] at h; cases h
  · rw [Vw.out z] at h; exact h
theorem Vw.keep {S : List Addr} {H H' : Hp} (e : ∀ b o, b ∉ S → H b = some o → H' b = some o) : Same (Vw S H) (Vw S H') := fun b o h => by
  by_cases z : b ∈ S
  · unfold Vw at h; rw [if_pos z] at h; cases h
  · rw [Vw.out z] at h ⊢; exact e b o z h
theorem Vw.same {S : List Addr} {H H' : Hp} (e : Same H H') : Same (Vw S H) (Vw S H') := Vw.keep fun b o _ h => e b o h
def Fx (S : List Addr) (H : Hp) : Prop := ∀ b ∈ S, ∃ xs, H b = some (.lst xs)
theorem Fx.same {S : List Addr} {H H' : Hp} (f : Fx S H) (e : Same H H') : Fx S H' := fun b hb => let ⟨xs, h⟩ := f b hb; ⟨xs, e b _ h⟩
theorem Fx.new {S : List Addr} {H : Hp} {p : Addr} (f : Fx S H) (h : H p = none) : p ∉ S := fun z => by
  obtain ⟨xs, q⟩ := f p z
  rw [q] at h; cases h
theorem Fx.nil {H : Hp} : Fx [] H := fun _ h => (List.not_mem_nil h).elim
section
variable {K : PySem.W.Frag} {S : List Addr} {H H' H0 : Hp}
theorem Fx.seqT {a : Addr} {xs : List V} (f : Fx S H) (h : SqT K H a xs) : SqT K (Vw S H) a xs := by
  rcases h with (h | ⟨o, h⟩) | h
  · exact .inl (.inl (by rw [Vw.out fun z => by obtain ⟨ys, q⟩ := f a z; rw [q] at h; cases h]; exact h))
  · exact .inl (.inr ⟨o, by rw [Vw.out fun z => by obtain ⟨ys, q⟩ := f a z; rw [q] at h; cases h]; exact h⟩)
  · exact .inr h
theorem Vw.at {p : Addr} {o : HO} (f : Fx S H) (h : H p = none) : Vw S (upd H p o) p = some o := by rw [Vw.out (f.new h)]; exact upd_same
def Dn (K : PySem.W.Frag) (S : List Addr) (H : Hp) (x : V) : Prop := ∃ d, Den K (Vw S H) d x
def DT (K : PySem.W.Frag) (S : List Addr) (n : Nat) (H : Hp) (x : V) : Prop := ∃ a xs, x = .ref a ∧ SqT K (Vw S H) a xs ∧ xs.length ≤ n ∧ ∀ y ∈ xs, Dn K S H y
def II (_ : Hp) (x : V) : Prop := ∃ i, x = .int i
class Mo (R : Hp → V → Prop) : Prop where
  mo : ∀ {H H' : Hp} {v : V}, Same H H' → R H v → R H' v
theorem Dn.keep {x : V} (h : Dn K S H x) (e : Same (Vw S H) (Vw S H')) : Dn K S H' x := let ⟨d, h⟩ := h; ⟨d, e.den _ _ h⟩
theorem Dn.same {x : V} (h : Dn K S H x) (e : Same H H') : Dn K S H' x := h.keep (Vw.same e)
theorem DT.keep {n : Nat} {x : V} (h : DT K S n H x) (e : Same (Vw S H) (Vw S H')) : DT K S n H' x := let ⟨a, xs, h1, h2, h3, h4⟩ := h; ⟨a, xs, h1, e.seqT h2, h3, fun y hy => (h4 y hy).keep e⟩
theorem DT.same {n : Nat} {x : V} (h : DT K S n H x) (e : Same H H') : DT K S n H' x := h.keep (Vw.same e)
instance : Mo (Dn K S) := ⟨fun e h => Dn.same h e⟩
instance {n : Nat} : Mo (DT K S n) := ⟨fun e h => DT.same h e⟩
instance : Mo II := ⟨fun _ h => h⟩
theorem dn_int (i : Int) : Dn K S H (.int i) := ⟨.int i, den_int.mpr rfl⟩
theorem II.dn {x : V} (h : II H x) : Dn K S H x := let ⟨i, h⟩ := h; h ▸ dn_int i
theorem dn_all : ∀ {xs : List V}, (∀ x ∈ xs, Dn K S H x) → ∃ ds, DenAll K (Vw S H) ds xs
  | [], _ => ⟨[], denAll_nil.mpr rfl⟩
  | x :: r, h => by
    obtain ⟨d, hd⟩ := h x (List.mem_cons_self ..)
    obtain ⟨ds, hds⟩ := dn_all (xs := r) fun y hy => h y (List.mem_cons_of_mem _ hy)
    exact ⟨d :: ds, denAll_cons.mpr ⟨x, r, rfl, hd, hds⟩⟩
theorem DT.dn {n : Nat} {x : V} (h : DT K S n H x) : Dn K S H x := by
  obtain ⟨a, xs, rfl, h2, _, h4⟩ := h
  obtain ⟨ds, hds⟩ := dn_all h4
  exact ⟨.tuple ds, den_tuple.mpr ⟨a, xs, rfl, h2, hds⟩⟩
theorem dn_ints {l : List Int} : ∀ x ∈ l.map V.int, Dn K S H x := fun x hx => by
  obtain ⟨i, _, rfl⟩ := List.mem_map.mp hx
  exact dn_int i
theorem DT.ints {a : Addr} {l : List Int} {n : Nat} (f : Fx S H) (h : SqT K H a (l.map V.int)) (hn : l.length ≤ n) : DT K S n H (.ref a) := ⟨a, _, rfl, f.seqT h, by rw [List.length_map]; exact hn, dn_ints⟩
def Al (H0 : Hp) (S : List Addr) (te : TE) (σ : St) (R : Hp → V → Prop) : Prop := ∀ H, Same H0 H → Fx S H → ∀ Q : VK, (∀ v H', Same H H' → R H' v → Q v H') → te σ H Q
variable {σ : St} {R R' : Hp → V → Prop} {te ta tb ts : TE} {t tr : TA} {tl th : TO}
theorem Al.mono (h : Al H0 S te σ R) (m : ∀ H v, R H v → R' H v) : Al H0 S te σ R' := fun H s f Q k => h H s f Q fun v H' s' r => k v H' s' (m H' v r)
theorem Al.i (h : Al H0 S te σ II) : Al H0 S te σ (Dn K S) := h.mono fun _ _ r => r.dn
theorem Al.d {n : Nat} (h : Al H0 S te σ (DT K S n)) : Al H0 S te σ (Dn K S) := h.mono fun _ _ r => r.dn
instance {a : Addr} {xs : List V} : Mo (fun H v => v = .ref a ∧ SqT K H a xs) := ⟨fun e h => ⟨h.1, e.seqT h.2⟩⟩
instance {x : V} : Mo (fun _ v => v = x) := ⟨fun _ h => h⟩
end
end L2
set_option Elab.async false
set_option linter.all false
set_option maxRecDepth 100000
namespace L2
open PySem PySem.Spec PyProof.Rows
open PySem.AutoSeq1 (wpAny_loadPart')
theorem nf {b : Bool} (h : b = false) : decide (b = true) = false := by rw [h]; rfl
section
variable {X : Cx} {pins : List (Addr × Obj)} {σ : St} {H : Hp} {s : Shared}
end

section
variable {K : PySem.W.Frag} {S : List Addr} {H H' H0 : Hp} {E E' : Hp → V → Prop}
def DTe (K : PySem.W.Frag) (S : List Addr) (E : Hp → V → Prop) (n : Nat) (H : Hp) (x : V) : Prop := ∃ a xs, x = .ref a ∧ SqT K (Vw S H) a xs ∧ xs.length ≤ n ∧ ∀ y ∈ xs, E H y
def LTe (S : List Addr) (E : Hp → V → Prop) (n : Nat) (H : Hp) (x : V) : Prop := ∃ a xs, x = .ref a ∧ Vw S H a = some (.lst xs) ∧ xs.length ≤ n ∧ ∀ y ∈ xs, E H y
instance {n : Nat} [m : Mo E] : Mo (DTe K S E n) := ⟨fun e ⟨a, xs, h1, h2, h3, h4⟩ => ⟨a, xs, h1, (Vw.same e).seqT h2, h3, fun y hy => m.mo e (h4 y hy)⟩⟩
instance {n : Nat} [m : Mo E] : Mo (LTe S E n) := ⟨fun e ⟨a, xs, h1, h2, h3, h4⟩ => ⟨a, xs, h1, Vw.same e _ _ h2, h3, fun y hy => m.mo e (h4 y hy)⟩⟩
variable {σ : St} {te ta tb ts : TE} {t tr : TA} {tl th : TO}
end
section
variable {env : Env} {rest es : List Expr} {k : Nat} {pos : Pos} {a b c : Expr}
end
end L2
set_option Elab.async false
set_option linter.all false
set_option maxRecDepth 100000
namespace L2
open PySem PySem.Spec PyProof.Rows
def compCheck1 (sc scope : Scope) (z0 : Str) (own : List Str) (frn : List Str) : Bool :=
  scope.kind == .function && scope.names.all (fun y => y.2 != .cell || y.1 == z0) && scope.names.all (fun y => y.2 != .local || scope.names.lookup y.1 == some .local) &&
  scope.names.all (fun y => y.2 != .free || sc.names.lookup y.1 == some .cell || sc.names.lookup y.1 == some .free) && decide (own ++ frn).Nodup &&
  frn.all (fun x => scope.names.lookup x == some .free) && scope.names.lookup z0 == some .cell && scope.names.all (fun y => y.2 != .free || y.1 != z0)
structure CompOk1 (X : Cx) (scope : Scope) (z0 : Str) (own : List Str) (fr : List Nat) (frn : List Str) : Prop where
  ck : compCheck1 X.env.scope scope z0 own frn = true
  ix : ∀ (k : Nat) (x : Str), frn[k]? = some x → ∃ j : Nat, fr[k]? = some j ∧ X.N[j]? = some x
  len : fr.length = frn.length
  cf : ∀ (n : Nat) (cl : List (Str × Addr)), cellsFrom n scope.names cl = (z0, n) :: cl
  pc : ∀ h : Heap, pushCells h scope.names = h.push { cls := .type "cell", data := .cell none }
section
variable {X : Cx} {scope : Scope} {z0 : Str} {own frn : List Str} {fr : List Nat}
theorem CompOk1.parts (S : CompOk1 X scope z0 own fr frn) : scope.kind = .function ∧ (∀ y ∈ scope.names, y.2 = .cell → y.1 = z0) ∧ (∀ y ∈ scope.names, y.2 = .local → scope.names.lookup y.1 = some .local) ∧
    (∀ y ∈ scope.names, y.2 = .free → X.env.scope.names.lookup y.1 = some .cell ∨ X.env.scope.names.lookup y.1 = some .free) ∧ (own ++ frn).Nodup ∧ (∀ x ∈ frn, scope.names.lookup x = some .free) ∧ scope.names.lookup z0 = some .cell ∧ ∀ y ∈ scope.names, y.2 = .free → y.1 ≠ z0 := by
  have h := S.ck
  unfold compCheck1 at h
  simp only [Bool.and_eq_true, List.all_eq_true, decide_eq_true_eq, Bool.or_eq_true, bne_iff_ne, ne_eq, beq_iff_eq] at h
  obtain ⟨⟨⟨⟨⟨⟨⟨h1, h2⟩, h3⟩, h4⟩, h5⟩, h7⟩, h8⟩, h9⟩ := h
  refine ⟨h1, fun y hy e => ?_, fun y hy e => ?_, fun y hy e => ?_, h5, h7, h8, fun y hy e => ?_⟩
  · rcases h2 y hy with z | z
    · exact absurd e z
    · exact z
  · rcases h3 y hy with z | z
    · exact absurd e z
    · exact z
  · rcases h4 y hy with (z | z) | z
    · exact absurd e z
    · exact .inl z
    · exact .inr z
  · rcases h9 y hy with z | z
    · exact absurd e z
    · exact z
end
section
variable {X : Cx} {scope : Scope} {z0 : Str} {own frn : List Str} {fr : List Nat} {elt tg iter : Expr} {ifs : List Expr} {pos : Pos} {wi : TI} {g : TG} {tt : TT} {te : TE}
theorem CompOk1.clo {pins : List (Addr × Obj)} {σ : St} {H : Hp} {s : Shared} (S : CompOk1 X scope z0 own fr frn) (I : Inv X pins σ H s) : closureFor scope X.env = pure (clOf X.env scope.names []) := by
  obtain ⟨p1, p2, p3, p4, p5, p7, p8, p9⟩ := S.parts
  exact clo_of fun y hy e => I.ok.has y.1 (p4 y hy e)

end

def relS (scope sc : Scope) : Scope := { scope with names := scope.names.map fun (n, k) => if (k == NameKind.free && sc.kind == .function && sc.names.lookup n == some .cell) then (n, NameKind.cell) else (n, k) }
end L2
set_option Elab.async false
set_option linter.all false
set_option maxRecDepth 100000
namespace L2
open PySem PySem.Spec PyProof.Rows
section
variable {X : Cx}
end
end L2
set_option Elab.async false
set_option linter.all false
set_option maxRecDepth 100000
namespace L2
open PySem PySem.Spec PyProof.Rows
section
variable {P : Program} {w : World} {K : PySem.W.Frag} {mg : Str → Option Value} {base : Heap} {N : List Str} {qual : Str} {scope : Scope} {f : Addr} {cd : Value} {A : Around} {outer : List Env} {s0 : Shared} {H0 : Hp} {E : XK}
end
end L2
set_option Elab.async false
set_option linter.all false
set_option maxRecDepth 100000
namespace L2
open PySem PySem.Spec PyProof.Rows
abbrev vbm : List Value := [.type "ValueError", .type "Exception", .type "BaseException", .type "object"]
def qns : List Str := ["__init__", "__getattribute__", "__getattr__", "__class__"]
inductive TailN (h : Heap) (bmB : List Value) : List Value → Prop
  | base : TailN h bmB bmB
  | own {A : Addr} {c0 : Value} {dd : Option Addr} {cd : ClassData} {sl : Array (Option Value)} {mA : Str → Option Value} {tl : List Value} :
      h.get? A = some { cls := c0, dict := dd, data := .cls cd, slots := sl } → h.Ns cd.ns mA → (∀ n ∈ qns, mA n = none) → TailN h bmB tl → TailN h bmB (.ref A :: tl)
theorem TailN.tail {h : Heap} {bmB tl : List Value} (T : TailN h bmB tl) : OwnTail h bmB tl := by
  induction T with
  | base => exact .base
  | own hA hN hq _ ih => exact .own hA hN (hq _ (.head _)) ih
theorem TailN.keeps {h h' : Heap} {bmB tl : List Value} (T : TailN h bmB tl) (hk : ∀ b o, h.get? b = some o → h'.get? b = some o) : TailN h' bmB tl := by
  induction T with
  | base => exact .base
  | own hA hN hq _ ih => exact .own (hk _ _ hA) (hN.keeps hk) hq ih
def EcH (h : Heap) (C : Addr) (bm : List Value) : Prop := ∃ N nm q bs hdct sn sub ab col dd k0 k1 k2 k3 k5 mN, h.get? C = some (excClassObj nm q C N bs bm hdct sn sub ab col dd k0 k1 k2 k3 k5 "ValueError.__new__") ∧ h.Ns N mN ∧ (∀ n ∈ qns, mN n = none) ∧ TailN h vbm bm
theorem EcH.keeps {h h' : Heap} {C : Addr} {bm : List Value} (x : EcH h C bm) (hk : ∀ b o, h.get? b = some o → h'.get? b = some o) : EcH h' C bm := by
  obtain ⟨N, nm, q, bs, hdct, sn, sub, ab, col, dd, k0, k1, k2, k3, k5, mN, hC, hN, hq, T⟩ := x
  exact ⟨N, nm, q, bs, hdct, sn, sub, ab, col, dd, k0, k1, k2, k3, k5, mN, hk _ _ hC, hN.keeps hk, hq, T.keeps hk⟩
section
variable {M : Model} {prog : Program} {w : World} {A : Around} {E : Value → Shared → Prop} {h : Heap} {g : Array GenState} {d : Drawn} {t : Nat} {os : OsState} {a C : Addr} {o : Obj} {bm : List Value}
theorem EcH.has {T : String} (x : EcH h C bm) (hb : vbm.contains (.type T) = true) : (Value.ref C :: bm).contains (.type T) = true := by
  obtain ⟨N, nm, q, bs, hdct, sn, sub, ab, col, dd, k0, k1, k2, k3, k5, mN, hC, hN, hmN, TT⟩ := x
  rw [List.contains_cons, TT.tail.hasType hb, Bool.or_true]
end
end L2
set_option Elab.async false
set_option linter.all false
set_option maxRecDepth 100000
namespace L2
open PySem PySem.Spec PyProof.Rows
section
variable {M : Model} {prog : Program} {w : World} {A : Around} {E : Value → Shared → Prop} {h : Heap} {g : Array GenState} {d : Drawn} {t : Nat} {os : OsState} {a C : Addr} {o : Obj} {bm : List Value}
end
end L2
set_option Elab.async false
set_option linter.all false
set_option maxRecDepth 100000
namespace L2
open PySem PySem.Spec PyProof.Rows
section
variable {X : Cx}
end
end L2
set_option Elab.async false
set_option linter.all false
set_option maxRecDepth 100000
namespace L2
open PySem PySem.Spec PyProof.Rows
section
variable {P : Program} {w : World} {l : List Env} {H H' : Hp} {s s' : Shared} {E : XK} {a T C : Addr}
end
section
variable {X : Cx} {pins : List (Addr × Obj)} {σ : St} {H : Hp} {s s' : Shared} {E : XK} {e : Value} {M : Model} {A : Around} {F : Value → Shared → Prop} {L : Addr}
end
end L2
set_option Elab.async false
set_option linter.all false
set_option maxRecDepth 100000
namespace L2
open PySem PySem.Spec PyProof.Rows
section
variable {M : Model} {A : Around} {E : Value → Shared → Prop} {h : Heap} {g : Array GenState} {d : Drawn} {t : Nat} {os : OsState} {a C C' : Addr} {oe : Obj} {bm bm' : List Value}
end
section
variable {X : Cx} {k : Nat} {f : Addr} {fd : FuncData} {ps : List Str} {sp : Sp} {dvs : List V} {ds : List Value} {x : Str} {p pos apos : Pos} {e : Expr} {es : List Expr} {t : TA}
end
end L2
set_option Elab.async false
set_option linter.all false
set_option maxRecDepth 100000
namespace L2
open PySem PySem.Spec PyProof.Rows
section
variable {X : Cx} {K : PySem.W.Frag}
end
end L2
set_option Elab.async false
set_option linter.all false
set_option maxRecDepth 100000
namespace L2
open PySem PySem.Spec PyProof.Rows
structure PEo (X : Cx) (e : Expr) (t : TE) : Prop where
  go : PE X e t
structure PAo (X : Cx) (es : List Expr) (t : TA) : Prop where
  go : PA X es t
structure PSo (X : Cx) (st : Stmt) (t : TS) : Prop where
  go : PS X st t
structure PSso (X : Cx) (sts : List Stmt) (t : TS) : Prop where
  go : PSs X sts t
section
variable {X : Cx} {pos : Pos} {e a b : Expr} {es : List Expr} {te ta tb : TE} {t : TA} {st : Stmt} {rest : List Stmt} {ts us : TS}
theorem psso_one (h : PSo X st ts) : PSso X [st] ts := ⟨pss_one h.go⟩
theorem psso_cons (h : PSo X st ts) (r : PSso X rest us) : PSso X (st :: rest) (tSeq ts us) := ⟨pss_cons h.go r.go⟩
end
end L2
set_option Elab.async false
set_option linter.all false
set_option maxRecDepth 100000
namespace L2
open PySem PySem.Spec PyProof.Rows
def tDt (K : PySem.W.Frag) (Z : List Addr) (S : St → Prop) (d : PyData) : TE := fun σ H Q => S σ ∧ Fx Z H ∧ ∀ v H', Same H H' → Den K (Vw Z H') d v → Q v H'
def tDA (K : PySem.W.Frag) (Z : List Addr) (S : St → Prop) (ds : List PyData) : TA := fun σ H Q => S σ ∧ Fx Z H ∧ ∀ vs H', Same H H' → DenAll K (Vw Z H') ds vs → Q vs H'
structure Dt (X : Cx) (K : PySem.W.Frag) (Z : List Addr) (S : St → Prop) (e : Expr) (d : PyData) : Prop where
  go : PE X e (tDt K Z S d)
structure DA (X : Cx) (K : PySem.W.Frag) (Z : List Addr) (S : St → Prop) (es : List Expr) (ds : List PyData) : Prop where
  go : PA X es (tDA K Z S ds)
section
variable {X : Cx} {K : PySem.W.Frag} {Z : List Addr} {S : St → Prop} {te : TE} {pos : Pos} {e a b : Expr} {es : List Expr} {d : PyData} {ds : List PyData}
theorem PSso.ex {sts : List Stmt} {t : TS} {R : TS → Prop} (h : PSso X sts t) (r : R t) : ∃ t, PSs X sts t ∧ R t := ⟨t, h.go, r⟩
end
end L2
set_option Elab.async false
set_option linter.all false
set_option maxRecDepth 100000
namespace L2
open PySem PySem.Spec PyProof.Rows
section
variable {X : Cx} {tg l : Expr} {body : List Stmt} {tl : TE} {g : TG} {tb : TS} {pos : Pos}
end
end L2
set_option Elab.async false
set_option linter.all false
set_option maxRecDepth 100000
namespace L2
open PySem PySem.Spec PyProof.Rows
end L2
set_option Elab.async false
set_option linter.all false
set_option maxRecDepth 100000
namespace L2
open PySem PySem.Spec PyProof.Rows
section
variable {prog : Program} {w : World} {A : Around} {E : Value → Shared → Prop} {s : Shared}
end
end L2
set_option Elab.async false
set_option linter.all false
set_option maxRecDepth 100000
namespace L2
open PySem PySem.Spec PyProof.Rows
section
variable {X : Cx}
end
end L2
set_option Elab.async false
set_option linter.all false
set_option maxRecDepth 100000
namespace L2
open PySem PySem.Spec PyProof.Rows
section
variable {prog : Program} {w : World} {A : Around} {E : Value → Shared → Prop} {s : Shared} {e it l : Addr} {n : Nat} {P : Nat → Value → Prop} {st : Nat → Heap → Prop}
end
section
variable {X : Cx} {es : List Expr} {x1 : Nat} {tpos : Pos}
end
end L2
set_option Elab.async false
set_option linter.all false
set_option maxRecDepth 100000
namespace L2
open PySem PySem.Spec PyProof.Rows
theorem le1000 {n : Nat} (h : n ≤ 1000) : n ≤ sizeLine := by rw [sizeLine_eq]; omega
section
variable {own : Nat} {fr : List Nat} {g : TG} {te : TE} {σ : St} {H : Hp} {Qf : Hp → List V → Prop} {K : PySem.W.Frag}
theorem take_at {vs : List V} {i : Nat} {v : V} (h : vs[i]? = some v) : vs.take (i + 1) = vs.take i ++ [v] := by rw [List.take_succ, h]; rfl
theorem comp_fn {J : It} {n : Nat} {vs : List V} (SH : St → Prop) (hn : n ≤ 1000) (hl : vs.length = n) (hσ : SH (blk own fr σ)) (hstop : ∀ H', Same H H' → J.stop n H') (hgo : ∀ i H', i < n → Same H H' → J.go i H')
    (hs : ∀ i v x σ H1 H2, i < n → vs[i]? = some v → SH σ → Same H H1 → J.yld i H1 x H2 → ∀ Q : V → St → Hp → Prop, (∀ σ2 H4, SH σ2 → Same H1 H4 → Q v σ2 H4) → g x σ H2 fun σ2 H3 => te σ2 H3 fun y H4 => Q y σ2 H4)
    (hd : ∀ H', Same H H' → Qf H' vs) :
    ∃ W : Nat → Nat → List V → St → Hp → Prop, (∃ m, W 0 m [] (blk own fr σ) H) ∧ ∀ i m ys σ' H, W i m ys σ' H →
      (J.stop i H ∧ Qf H ys) ∨
      (J.go i H ∧ ∃ N : List V → St → Hp → Prop, (∀ ys' σ2 H2, N ys' σ2 H2 → ∃ m', m' < m ∧ W (i + 1) m' ys' σ2 H2) ∧
        ∀ x H', J.yld i H x H' → g x σ' H' fun σ2 H2 => tAll σ2 H2 fun b H3 => if b = true then te σ2 H3 fun y H4 => ys.length < sizeLine ∧ N (ys ++ [y]) σ2 H4 else N ys σ2 H3) := by
  refine comp_it n (le1000 hn) SH (fun i ys H' => ys = vs.take i ∧ Same H H') hσ ⟨rfl, Same.refl H⟩ (fun i ys H' p => by rw [p.1, List.length_take]; omega) (fun ys H' p => hstop H' p.2) (fun i ys H' hi p => hgo i H' hi p.2) ?_ (fun ys H' p => ?_)
  · rintro i ys σ' x H1 H2 hi sh ⟨rfl, s1⟩ hy hz
    have hv : vs[i]? = some vs[i] := List.getElem?_eq_getElem (by omega)
    have h := hs i vs[i] x σ' H1 H2 hi hv sh s1 hy (fun y σ2 H4 => (vs.take i).length < sizeLine ∧ SH σ2 ∧ (vs.take i ++ [y] = vs.take (i + 1) ∧ Same H H4)) fun σ2 H4 sh2 s4 => ⟨hz, sh2, (take_at hv).symm, s1.trans s4⟩
    exact h
  · obtain ⟨rfl, s1⟩ := p
    rw [List.take_of_length_le (by omega)]
    exact hd H' s1
theorem comp_fnL {a : Addr} {xs vs : List V} (SH : St → Prop) (hn : xs.length ≤ 1000) (hl : vs.length = xs.length) (ha : SqL K H a xs) (hσ : SH (blk own fr σ))
    (hs : ∀ (i : Nat) x v σ H1, xs[i]? = some x → vs[i]? = some v → SH σ → Same H H1 → ∀ Q : V → St → Hp → Prop, (∀ σ2 H4, SH σ2 → Same H1 H4 → Q v σ2 H4) → g x σ H1 fun σ2 H2 => te σ2 H2 fun y H4 => Q y σ2 H4)
    (hd : ∀ H', Same H H' → Qf H' vs) :
    ∃ W : Nat → Nat → List V → St → Hp → Prop, (∃ m, W 0 m [] (blk own fr σ) H) ∧ ∀ i m ys σ' H, W i m ys σ' H →
      ((Itl K a).stop i H ∧ Qf H ys) ∨
      ((Itl K a).go i H ∧ ∃ N : List V → St → Hp → Prop, (∀ ys' σ2 H2, N ys' σ2 H2 → ∃ m', m' < m ∧ W (i + 1) m' ys' σ2 H2) ∧
        ∀ x H', (Itl K a).yld i H x H' → g x σ' H' fun σ2 H2 => tAll σ2 H2 fun b H3 => if b = true then te σ2 H3 fun y H4 => ys.length < sizeLine ∧ N (ys ++ [y]) σ2 H4 else N ys σ2 H3) := by
  refine comp_fn SH hn hl hσ (fun H' s => ⟨xs, s.seqL ha, Nat.le_refl _⟩) (fun i H' hi s => ⟨xs, xs[i], s.seqL ha, List.getElem?_eq_getElem hi⟩) (fun i v x σ H1 H2 hi hv sh s y Q k => ?_) hd
  obtain ⟨e, y⟩ := y
  subst e
  exact hs i x v σ _ (y xs (s.seqL ha)) hv sh s Q k
theorem comp_fnT {a : Addr} {xs vs : List V} (SH : St → Prop) (hn : xs.length ≤ 1000) (hl : vs.length = xs.length) (ha : SqT K H a xs) (hσ : SH (blk own fr σ))
    (hs : ∀ (i : Nat) x v σ H1, xs[i]? = some x → vs[i]? = some v → SH σ → Same H H1 → ∀ Q : V → St → Hp → Prop, (∀ σ2 H4, SH σ2 → Same H1 H4 → Q v σ2 H4) → g x σ H1 fun σ2 H2 => te σ2 H2 fun y H4 => Q y σ2 H4)
    (hd : ∀ H', Same H H' → Qf H' vs) :
    ∃ W : Nat → Nat → List V → St → Hp → Prop, (∃ m, W 0 m [] (blk own fr σ) H) ∧ ∀ i m ys σ' H, W i m ys σ' H →
      ((Itt K a).stop i H ∧ Qf H ys) ∨
      ((Itt K a).go i H ∧ ∃ N : List V → St → Hp → Prop, (∀ ys' σ2 H2, N ys' σ2 H2 → ∃ m', m' < m ∧ W (i + 1) m' ys' σ2 H2) ∧
        ∀ x H', (Itt K a).yld i H x H' → g x σ' H' fun σ2 H2 => tAll σ2 H2 fun b H3 => if b = true then te σ2 H3 fun y H4 => ys.length < sizeLine ∧ N (ys ++ [y]) σ2 H4 else N ys σ2 H3) := by
  refine comp_fn SH hn hl hσ (fun H' s => ⟨xs, s.seqT ha, Nat.le_refl _⟩) (fun i H' hi s => ⟨xs, xs[i], s.seqT ha, List.getElem?_eq_getElem hi⟩) (fun i v x σ H1 H2 hi hv sh s y Q k => ?_) hd
  obtain ⟨e, y⟩ := y
  subst e
  exact hs i x v σ _ (y xs (s.seqT ha)) hv sh s Q k
end
end L2
set_option Elab.async false
set_option linter.all false
set_option maxRecDepth 100000
namespace L2
open PySem PySem.Spec PyProof.Rows
section
variable {X : Cx} {st : Stmt} {rest : List Stmt} {t u : TS} {e : Expr} {te : TE} {tt : TT}
end
section
variable {X : Cx} {K : PySem.W.Frag}
theorem pi_listK {tg l : Expr} {tl : TE} (hK : X.K = K) (hl : PE X l tl) : PI X tg l (iList K tl) := by subst hK; exact pi_list hl
end
end L2
set_option Elab.async false
set_option linter.all false
set_option maxRecDepth 100000
namespace L2
open PySem PySem.Spec PyProof.Rows
section
variable {X : Cx}
end
section
variable {K : PySem.W.Frag} {S : List Addr} {H H' H0 : Hp} {E E' : Hp → V → Prop} {σ : St} {te ta tb ts : TE} {t tr : TA} {tl th : TO}
instance {a : Addr} {xs : List V} : Mo (fun H v => v = .ref a ∧ SqT K (Vw S H) a xs) := ⟨fun e h => ⟨h.1, (Vw.same e).seqT h.2⟩⟩
end
end L2
set_option Elab.async false
set_option linter.all false
set_option maxRecDepth 100000
namespace L2
open PySem PySem.Spec PyProof.Rows
section
variable {prog : Program} {w : World} {A : Around} {R : Result → Shared → Prop} {s : Shared} {elt tg iter tg2 iter2 : Expr} {scope : Scope} {pos : Pos} {it acc : Value} {env : Env}
theorem compTurn_two0 : compTurn (.ListComp elt [⟨tg, iter, [], 0⟩, ⟨tg2, iter2, [], 0⟩] scope pos) 0 it acc env = (standAt iter.pos >>= fun _ => pyNext it >>= fun r => match r with
      | none => pure (.done .next)
      | some v => letOwnedTupleGo tg it v >>= fun _ => assign tg env v >>= fun _ =>
        (eval iter2 env >>= fun x => standAt iter2.pos >>= fun _ => foldedSetIterable iter2 env x >>= fun x => holding [x] (pyIter x) >>= fun i =>
          runOwn (.compStart (.ListComp elt [⟨tg, iter, [], 0⟩, ⟨tg2, iter2, [], 0⟩] scope pos) 1 i acc env) env >>= fun _ =>
          again (.compLoop (.ListComp elt [⟨tg, iter, [], 0⟩, ⟨tg2, iter2, [], 0⟩] scope pos) 0 it acc env))) := by rfl
theorem compTurn_two1 : compTurn (.ListComp elt [⟨tg, iter, [], 0⟩, ⟨tg2, iter2, [], 0⟩] scope pos) 1 it acc env = (standAt iter2.pos >>= fun _ => pyNext it >>= fun r => match r with
      | none => pure (.done .next)
      | some v => letOwnedTupleGo tg2 it v >>= fun _ => assign tg2 env v >>= fun _ =>
        (eval elt env >>= fun x => call (.builtin "list.append") [acc, x] >>= fun _ => pure ()) >>= fun _ =>
          again (.compLoop (.ListComp elt [⟨tg, iter, [], 0⟩, ⟨tg2, iter2, [], 0⟩] scope pos) 1 it acc env)) := by rfl
theorem codeAny_compStart_two
    (h0 : codeAny (model prog w) A (.compLoop (.ListComp elt [⟨tg, iter, [], 0⟩, ⟨tg2, iter2, [], 0⟩] scope pos) 1 it acc env) R s)
    (h : wpAny (model prog w) A (pyIter it) (fun it' s' => codeAny (model prog w) A (.compLoop (.ListComp elt [⟨tg, iter, [], 0⟩, ⟨tg2, iter2, [], 0⟩] scope pos) 1 it' acc env) R s')
      (notedBy (model prog w) A env fun x s' => R (.error x) s') s) :
    codeAny (model prog w) A (.compStart (.ListComp elt [⟨tg, iter, [], 0⟩, ⟨tg2, iter2, [], 0⟩] scope pos) 1 it acc env) R s := by
  refine codeAny_of_tree ?_
  show wpAny _ _ ((compStart (.ListComp elt [⟨tg, iter, [], 0⟩, ⟨tg2, iter2, [], 0⟩] scope pos) 1 it acc env).onRaise (fun x => do noteFrame x env; standAt theWindowsPlace)) _ _ s
  refine wpAny_notedAt ?_
  unfold compStart
  show wpAny _ _ (ask >>= _) _ _ s
  refine wpAny_bind (wpAny_askSetting (wpAny_ite ?_))
  split
  · first
      | exact wpAny_bind (wpAny_pure (wpAny_pure (And.intro rfl h0)))
      | exact wpAny_pure (And.intro rfl h0)
  · first
      | exact wpAny_bind (wpAny_rule (wpAny_bind (wpAny_standAt (wpAny_bind (wpAny_mono h (fun it' s' h' => wpAny_pure (And.intro rfl h')) fun _ _ x => x)))))
      | (refine wpAny_bind (wpAny_rule ?_); show wpAny _ _ (standAt iter2.pos >>= _) _ _ s; exact wpAny_bind (wpAny_standAt (wpAny_bind (wpAny_mono h (fun it' s' h' => wpAny_pure (And.intro rfl h')) fun _ _ x => x))))
theorem compLoop_in (I : Nat → Shared → Prop)
    (turn : ∀ n s, I n s → wpAny (model prog w) A (pyNext it) (fun r s₁ => match r with
      | none => R (.ok .next) s₁
      | some v => wpAny (model prog w) A (letOwnedTupleGo tg2 it v) (fun _ s₁' => wpAny (model prog w) A (assign tg2 env v) (fun _ s₂ =>
          wpAny (model prog w) A (eval elt env) (fun x s₄ =>
              wpAny (model prog w) A (call (.builtin "list.append") [acc, x]) (fun _ s₅ => ∃ m, m < n ∧ I m s₅) (fun _ _ => False) s₄) (fun _ _ => False) s₂) (fun _ _ => False) s₁') (fun _ _ => False) s₁) (fun _ _ => False) s)
    (n : Nat) (h : I n s) :
    codeAny (model prog w) A (.compLoop (.ListComp elt [⟨tg, iter, [], 0⟩, ⟨tg2, iter2, [], 0⟩] scope pos) 1 it acc env) R s := by
  refine codeAny_loop rfl I (fun n s hI => ?_) n h
  show wpAny _ A ((compTurn (.ListComp elt [⟨tg, iter, [], 0⟩, ⟨tg2, iter2, [], 0⟩] scope pos) 1 it acc env).onRaise (fun x => do noteFrame x env; theTreesLotGoes x)) _ _ s
  refine wpAny_noted ?_
  rw [compTurn_two1]
  refine wpAny_bind (wpAny_standAt (wpAny_bind (wpAny_mono (turn n s hI) (fun r s₁ h₁ => ?_) fun _ _ h' => h'.elim)))
  cases r with
  | none => exact wpAny_pure h₁
  | some v =>
    refine wpAny_bind (wpAny_mono h₁ (fun _ s₁' h₁' => ?_) fun _ _ h' => h'.elim)
    refine wpAny_bind (wpAny_mono h₁' (fun _ s₂ h₂ => ?_) fun _ _ h' => h'.elim)
    exact wpAny_bind (wpAny_bind (wpAny_mono h₂ (fun x s₄ h₄ => wpAny_bind (wpAny_mono h₄ (fun _ s₅ h₅ => wpAny_pure (wpAny_pure ⟨rfl, h₅⟩)) fun _ _ h' => h'.elim)) fun _ _ h' => h'.elim))
theorem compLoop_out (hs2 : ∀ x, foldedSetIterable iter2 env x = pure x) (I : Nat → Shared → Prop)
    (turn : ∀ n s, I n s → wpAny (model prog w) A (pyNext it) (fun r s₁ => match r with
      | none => R (.ok .next) s₁
      | some v => wpAny (model prog w) A (letOwnedTupleGo tg it v) (fun _ s₁' => wpAny (model prog w) A (assign tg env v) (fun _ s₂ =>
          wpAny (model prog w) A (eval iter2 env) (fun x s₃ => wpAny (model prog w) A (pyIter x) (fun i s₄ =>
              codeAny (model prog w) A (.compStart (.ListComp elt [⟨tg, iter, [], 0⟩, ⟨tg2, iter2, [], 0⟩] scope pos) 1 i acc env) (fun r s₅ => match r with
                | .ok _ => ∃ m, m < n ∧ I m s₅
                | .error _ => False) s₄) (fun _ _ => False) s₃) (fun _ _ => False) s₂) (fun _ _ => False) s₁') (fun _ _ => False) s₁) (fun _ _ => False) s)
    (n : Nat) (h : I n s) :
    codeAny (model prog w) A (.compLoop (.ListComp elt [⟨tg, iter, [], 0⟩, ⟨tg2, iter2, [], 0⟩] scope pos) 0 it acc env) R s := by
  refine codeAny_loop rfl I (fun n s hI => ?_) n h
  show wpAny _ A ((compTurn (.ListComp elt [⟨tg, iter, [], 0⟩, ⟨tg2, iter2, [], 0⟩] scope pos) 0 it acc env).onRaise (fun x => do noteFrame x env; theTreesLotGoes x)) _ _ s
  refine wpAny_noted ?_
  rw [compTurn_two0]
  refine wpAny_bind (wpAny_standAt (wpAny_bind (wpAny_mono (turn n s hI) (fun r s₁ h₁ => ?_) fun _ _ h' => h'.elim)))
  cases r with
  | none => exact wpAny_pure h₁
  | some v =>
    refine wpAny_bind (wpAny_mono h₁ (fun _ s₁' h₁' => ?_) fun _ _ h' => h'.elim)
    refine wpAny_bind (wpAny_mono h₁' (fun _ s₂ h₂ => ?_) fun _ _ h' => h'.elim)
    refine wpAny_bind (wpAny_mono h₂ (fun x s₃ h₃ => ?_) fun _ _ h' => h'.elim)
    refine wpAny_bind (wpAny_standAt (wpAny_bind (wpAny_of_eq (hs2 x) (wpAny_bind (wpAny_holding (wpAny_mono h₃ (fun i s₄ h₄ => ?_) fun _ _ h' => h'.elim))))))
    refine wpAny_bind (wpAny_runOwn (codeAny_mono h₄ fun r s₅ h₅ => ?_))
    cases r with
    | ok f => exact wpAny_pure ⟨rfl, h₅⟩
    | error e => exact False.elim h₅
end
end L2
set_option Elab.async false
set_option linter.all false
set_option maxRecDepth 100000
namespace L2
open PySem PySem.Spec PyProof.Rows
theorem comp_inner {Y : Cx} {elt tg iter tg2 iter2 : Expr} {scope : Scope} {pos : Pos} {it2 D : Addr} {fp2 : List Addr} {tn2 : Nat → Heap → Prop} {J2 : It} {g2 : TG} {te : TE} {ps : List (Addr × Obj)} {σ : St} {H : Hp} {s : Shared} {zs : List V} {its : Array Value} {o : Obj} {F : List V → St → Hp → Prop} {R : Result → Shared → Prop}
    (hx : ∀ v s', ¬ Y.xe v s') (hc : Y.calm = true) (T : Turn Y.prog Y.w Y.K tg2 J2 fp2 it2 tn2) (hg : PG Y tg2 g2) (he : PE Y elt te)
    (hDL : D ≠ Y.env.locals) (hD1 : D ∈ Y.ex ∨ Y.s₀.heap.objs.size ≤ D) (hDc : ∀ x c, Y.env.cells.lookup x = some c → c ≠ D) (hDp : ∀ p ∈ Y.pn, p.1 ≠ D) (hDfs : D ∉ Y.fs) (hps : ∀ p ∈ ps, p.1 ≠ D)
    (I0 : Inv Y ((D, o) :: ps) σ H s) (pl0 : s.heap.PlainList D its) (v0 : Vals zs its.toList) (z0 : zs.length ≤ sizeLine) (st0 : tn2 0 s.heap) (f0 : ∀ b ∈ fp2, FpOk Y ((D, o) :: ps) H b)
    (w : ∃ W2 : Nat → Nat → List V → St → Hp → Prop, (∃ m2, W2 0 m2 zs σ H) ∧ ∀ j m2 zs σ3 H4, W2 j m2 zs σ3 H4 → (J2.stop j H4 ∧ F zs σ3 H4) ∨ (J2.go j H4 ∧ ∃ N2 : List V → St → Hp → Prop, (∀ zs' σ4 H5, N2 zs' σ4 H5 → ∃ m3, m3 < m2 ∧ W2 (j + 1) m3 zs' σ4 H5) ∧
      ∀ x H', J2.yld j H4 x H' → g2 x σ3 H' fun σ4 H5 => te σ4 H5 fun y H6 => zs.length < sizeLine ∧ N2 (zs ++ [y]) σ4 H6))
    (hR : ∀ (s' : Shared) (σ' : St) (H' : Hp) (zs' : List V) (its' : Array Value) (o' : Obj), Inv Y ((D, o') :: ps) σ' H' s' → s'.heap.PlainList D its' → Vals zs' its'.toList → zs'.length ≤ sizeLine → F zs' σ' H' → R (.ok .next) s') :
    codeAny (model Y.prog Y.w) Y.A (.compStart (.ListComp elt [⟨tg, iter, [], 0⟩, ⟨tg2, iter2, [], 0⟩] scope pos) 1 (.ref it2) (.ref D) Y.env) R s := by
  obtain ⟨W2, ⟨m0, w0⟩, turn⟩ := w
  have stat : ∀ {H' : Hp} {o' : Obj}, (∀ b ∈ fp2, H' b = none) → ∀ b ∈ fp2, FpOk Y ((D, o') :: ps) H' b := fun {H' o'} hn b hb => by
    obtain ⟨_, q1, q2, q3, q4, q5⟩ := f0 b hb
    refine ⟨hn b hb, q1, q2, q3, q4, fun p hp => ?_⟩
    rcases List.mem_append.mp hp with h | h
    · exact q5 p (List.mem_append_left _ h)
    · rcases List.mem_cons.mp h with h | h
      · rw [h]; exact q5 (D, o) (List.mem_append_right _ (List.mem_cons_self ..))
      · exact q5 p (List.mem_append_right _ (List.mem_cons_of_mem _ h))
  have loop : codeAny (model Y.prog Y.w) Y.A (.compLoop (.ListComp elt [⟨tg, iter, [], 0⟩, ⟨tg2, iter2, [], 0⟩] scope pos) 1 (.ref it2) (.ref D) Y.env) R s := by
    refine compLoop_in (fun n s' => ∃ j σ' H' ys its o, Inv Y ((D, o) :: ps) σ' H' s' ∧ s'.heap.PlainList D its ∧ Vals ys its.toList ∧ ys.length ≤ sizeLine ∧ tn2 j s'.heap ∧ (∀ b ∈ fp2, H' b = none) ∧ W2 j n ys σ' H') ?_ m0
      ⟨0, σ, H, zs, its, o, I0, pl0, v0, z0, st0, fun b hb => (f0 b hb).1, w0⟩
    rintro n s5 ⟨i, σ5, H5, ys, its, o, I5, pl5, v5, z5, st5, fr5, w5⟩
    have p5' := I5.pin (D, o) (List.mem_append_right _ (List.mem_cons_self ..))
    rcases turn i n ys σ5 H5 w5 with ⟨stop, qn⟩ | ⟨go, N, hN, step⟩
    · refine wpAny_mono (T.done Y rfl rfl rfl hc i _ s5 σ5 H5 (fun _ _ => False) I5 (stat fr5) st5 stop) (fun r s6 hx9 => ?_) fun _ _ z => z
      obtain ⟨hr, I6⟩ := hx9
      subst hr
      have p6 := I6.pin (D, o) (List.mem_append_right _ (List.mem_cons_self ..))
      have pl6 : s6.heap.PlainList D its := by
        obtain ⟨k, e⟩ := pl5
        have e1 : o = _ := Option.some.inj (p5'.1.symm.trans e)
        exact ⟨k, by rw [p6.1]; exact congrArg some e1⟩
      exact hR s6 σ5 H5 ys its o I6 pl6 v5 z5 qn
    · refine wpAny_mono (T.item Y rfl rfl rfl hc i _ s5 σ5 H5 (fun _ _ => False) I5 (stat fr5) st5 go) (fun r s6 hx9 => ?_) fun _ _ z => z
      obtain ⟨u, hr, h6⟩ := hx9
      subst hr
      refine wpAny_mono h6 (fun _ s7 hx9 => ?_) fun _ _ z => z
      obtain ⟨x, H7, I7, r7, y7, st7, fr7⟩ := hx9
      have I7' := I7.pinned (stat fr7) (T.obj _ _ st7)
      refine wpAny_mono (hg _ s7 σ5 H7 x u _ I7' r7 (step x H7 y7)) (fun _ s8 hx9 => ?_) fun v s' z => hx v s' z
      obtain ⟨σ8, H8, I8, q8⟩ := hx9
      have keepT : ∀ {H' : Hp} {s' : Shared} {σ' : St}, Inv Y (((D, o) :: ps) ++ pinsAt fp2 s7.heap) σ' H' s' → tn2 (i + 1) s'.heap ∧ (∀ b ∈ fp2, H' b = none) ∧ s'.heap.PlainList D its ∧ H' D = none := fun {H' s' σ'} I' => by
        refine ⟨T.keep _ _ _ st7 fun b hb o e => (I'.pin (b, o) (List.mem_append_right _ (List.mem_append_right _ (mem_pinsAt hb e)))).1, fun b hb => ?_, ?_, ?_⟩
        · obtain ⟨o, e, d⟩ := T.obj _ _ st7 b hb
          exact (I'.pin (b, o) (List.mem_append_right _ (List.mem_append_right _ (mem_pinsAt hb e)))).2.1
        · have p' := I'.pin (D, o) (List.mem_append_right _ (List.mem_append_left _ (List.mem_cons_self ..)))
          obtain ⟨k, e⟩ := pl5
          have e1 : o = _ := Option.some.inj (p5'.1.symm.trans e)
          exact ⟨k, by rw [p'.1]; exact congrArg some e1⟩
        · exact (I'.pin (D, o) (List.mem_append_right _ (List.mem_append_left _ (List.mem_cons_self ..)))).2.1
      refine wpAny_mono (he _ s8 σ8 H8 _ I8 q8) (fun y s10 hx9 => ?_) fun v s' z => hx v s' z
      obtain ⟨yv, H10, I10, r10, lt10, q10⟩ := hx9
      obtain ⟨t10, fr10, pl10, hD10⟩ := keepT I10
      have hl := v5.length
      refine wpAny_list_append_plain pl10 (fun h11 pl11 sb11 => ?_) (by rw [← Array.length_toList, ← hl]; exact Nat.le_of_lt lt10)
      obtain ⟨m', hm, w'⟩ := hN _ σ8 H10 q10
      have I10' : Inv Y [] σ8 H10 s10 := I10.pins_of fun p hp => by cases hp
      have I11 : Inv Y [] σ8 H10 { s10 with heap := h11 } :=
        I10'.turned (t' := s10.toks) (it := D) (fun b o hb e => (sb11.2 b hb).trans e) hD10 hDL hD1 hDc (fun p hp => by rw [List.append_nil] at hp; exact hDp p hp)
      obtain ⟨k11, e11⟩ := id pl11
      refine ⟨m', hm, i + 1, σ8, H10, ys ++ [yv], its.push y, { cls := .type "list", data := .seq (its.push y) k11 }, I11.pins_of fun p hp => ?_, pl11, ?_, by rw [List.length_append]; show ys.length + 1 ≤ _; omega, T.keep _ _ _ t10 fun b hb o e => (sb11.2 b (fun z => ?_)).trans e, fr10, w'⟩
      · rcases List.mem_cons.mp hp with h | h
        · subst h
          exact ⟨e11, hD10, hDL, hDfs, fun v z => by cases z⟩
        · obtain ⟨a1, a2, a3, a4, a5⟩ := I10.pin p (List.mem_append_right _ (List.mem_append_left _ (List.mem_cons_of_mem _ h)))
          exact ⟨(sb11.2 p.1 (hps p h)).trans a1, a2, a3, a4, a5⟩
      · rw [Array.toList_push]
        exact v5.append (.cons r10 .nil)
      · exact (f0 b hb).2.2.2.2.2 (D, _) (List.mem_append_right _ (List.mem_cons_self ..)) z.symm
  exact codeAny_compStart_two loop (T.self Y.A 0 _ _ _ st0 loop)
end L2
set_option Elab.async false
set_option linter.all false
set_option maxRecDepth 100000
namespace L2
open PySem PySem.Spec PyProof.Rows
def tComp2 (own : Nat) (fr : List Nat) (wi : TI) (g : TG) (wi2 : TI) (g2 : TG) (te : TE) : TE := fun σ H Q => wi σ H fun J H1 => ∃ W : Nat → Nat → List V → St → Hp → Prop, (∃ m, W 0 m [] (blk own fr σ) H1) ∧ ∀ i m ys σ' H, W i m ys σ' H →
      (J.stop i H ∧ ∀ p, H p = none → Q (.ref p) (upd H p (.lst ys))) ∨
      (J.go i H ∧ ∃ N : List V → St → Hp → Prop, (∀ ys' σ2 H2, N ys' σ2 H2 → ∃ m', m' < m ∧ W (i + 1) m' ys' σ2 H2) ∧
        ∀ x H', J.yld i H x H' → g x σ' H' fun σ2 H2 => wi2 σ2 H2 fun J2 H3 => ∃ W2 : Nat → Nat → List V → St → Hp → Prop, (∃ m2, W2 0 m2 ys σ2 H3) ∧ ∀ j m2 zs σ3 H4, W2 j m2 zs σ3 H4 → (J2.stop j H4 ∧ N zs σ3 H4) ∨ (J2.go j H4 ∧ ∃ N2 : List V → St → Hp → Prop, (∀ zs' σ4 H5, N2 zs' σ4 H5 → ∃ m3, m3 < m2 ∧ W2 (j + 1) m3 zs' σ4 H5) ∧
          ∀ x H', J2.yld j H4 x H' → g2 x σ3 H' fun σ4 H5 => te σ4 H5 fun y H6 => zs.length < sizeLine ∧ N2 (zs ++ [y]) σ4 H6))
section
variable {X : Cx} {scope : Scope} {own frn : List Str} {fr : List Nat} {elt tg iter tg2 iter2 : Expr} {pos : Pos} {wi wi2 : TI} {g g2 : TG} {te : TE}
theorem comp_block2 {pins : List (Addr × Obj)} {σ : St} {H2 : Hp} {s2 : Shared} {it : Addr} {fp : List Addr} {tn : Nat → Heap → Prop} {J : It} {RR : Value → Addr → Result → Shared → Prop} {E : Value → Shared → Prop} {Q : Hp → List V → Prop}
    (S : CompOk X scope own fr frn) (hc : X.calm = true) (I2 : Inv X pins σ H2 s2) (T : Turn X.prog X.w X.K tg J fp it tn) (st2 : tn 0 s2.heap) (f2 : ∀ b ∈ fp, FpOk X pins H2 b)
    (hg : ∀ C s0 H0 fp, PG (cxComp X scope (own ++ frn) C s0 H0 fp) tg g) (hi2 : ∀ C s0 H0 fp, PI (cxComp X scope (own ++ frn) C s0 H0 fp) tg2 iter2 wi2) (hg2 : ∀ C s0 H0 fp, PG (cxComp X scope (own ++ frn) C s0 H0 fp) tg2 g2) (he : ∀ C s0 H0 fp, PE (cxComp X scope (own ++ frn) C s0 H0 fp) elt te) (hs2 : ∀ C x, foldedSetIterable iter2 (compEnvC scope (clOf X.env scope.names []) C X.env) x = pure x)
    (w : ∃ W : Nat → Nat → List V → St → Hp → Prop, (∃ m, W 0 m [] (blk own.length fr σ) H2) ∧ ∀ i m ys σ' H, W i m ys σ' H →
      (J.stop i H ∧ Q H ys) ∨
      (J.go i H ∧ ∃ N : List V → St → Hp → Prop, (∀ ys' σ2 H2, N ys' σ2 H2 → ∃ m', m' < m ∧ W (i + 1) m' ys' σ2 H2) ∧
        ∀ x H', J.yld i H x H' → g x σ' H' fun σ2 H2 => wi2 σ2 H2 fun J2 H3 => ∃ W2 : Nat → Nat → List V → St → Hp → Prop, (∃ m2, W2 0 m2 ys σ2 H3) ∧ ∀ j m2 zs σ3 H4, W2 j m2 zs σ3 H4 → (J2.stop j H4 ∧ N zs σ3 H4) ∨ (J2.go j H4 ∧ ∃ N2 : List V → St → Hp → Prop, (∀ zs' σ4 H5, N2 zs' σ4 H5 → ∃ m3, m3 < m2 ∧ W2 (j + 1) m3 zs' σ4 H5) ∧
          ∀ x H', J2.yld j H4 x H' → g2 x σ3 H' fun σ4 H5 => te σ4 H5 fun y H6 => zs.length < sizeLine ∧ N2 (zs ++ [y]) σ4 H6)))
    (hRR : ∀ (C D : Addr) (s' : Shared) (H' : Hp) (ys : List V) (its : Array Value) (m : Str → Option Value), s2.heap.objs.size ≤ C → s2.heap.objs.size ≤ D → D ≠ C → s'.heap.Ns C m → H' C = none → H' D = none → s'.heap.PlainList D its → Vals ys its.toList → ys.length ≤ sizeLine →
      Inv X pins σ H' s' → Q H' ys → RR (.ref D) C (.ok .next) s') :
    wpAny (model X.prog X.w) X.A (newList []) (fun acc s₃ => wpAny (model X.prog X.w) X.A (newFunctionEnv scope X.env.globals (clOf X.env scope.names []) [] X.env.qual none .none (some X.env)) (fun cenv s₄ =>
      codeAny (model X.prog X.w) X.A (.compStart (.ListComp elt [⟨tg, iter, [], 0⟩, ⟨tg2, iter2, [], 0⟩] scope pos) 0 (.ref it) acc { cenv with scope := relabel scope X.env }) (RR acc cenv.locals) s₄) E s₃) E s2 := by
  obtain ⟨p1, p2, p3, p4, p5, p6, p7⟩ := S.parts
  obtain ⟨W, ⟨m0, w0⟩, turn⟩ := w
  refine wpAny_newObj_type (wpAny_newFunctionEnv p2 (by intro y hy; simp at hy) (fun h₁ hns₁ hsb₁ => ?_) p1)
  dsimp only at hns₁ hsb₁ ⊢
  generalize hH2 : s2.heap.push { cls := .type "list", dict := none, data := .seq ([] : List Value).toArray } = HD at hns₁ hsb₁ ⊢
  have hCs : HD.objs.size = s2.heap.objs.size + 1 := by rw [← hH2, Heap.size_push]
  have hDC : s2.heap.objs.size ≠ HD.objs.size := by omega
  have hCle : s2.heap.objs.size ≤ HD.objs.size := by omega
  have below : ∀ b, b < s2.heap.objs.size → b ≠ HD.objs.size ∧ b ≠ s2.heap.objs.size := fun b hb => ⟨by omega, by omega⟩
  have old : ∀ b o, s2.heap.get? b = some o → h₁.get? b = some o := fun b o e => hsb₁.extBut b o (below b (Heap.lt_size e)).1 (Heap.get?_push_of_some _ (hH2 ▸ Heap.get?_push_of_some _ e))
  have hacc : h₁.get? s2.heap.objs.size = some { cls := .type "list", data := .seq ([] : List Value).toArray } := hsb₁.extBut _ _ hDC (Heap.get?_push_of_some _ (hH2 ▸ Heap.get?_push_size _ rfl))
  have flt : ∀ b ∈ fp, b < s2.heap.objs.size := fun b hb => by
    obtain ⟨o, e, _⟩ := T.obj _ _ st2 b hb
    exact Heap.lt_size e
  generalize hDg : s2.heap.objs.size = D at *
  generalize hCg : HD.objs.size = C at *
  have st3 : tn 0 h₁ := T.keep _ _ _ st2 fun b _ o e => old b o e
  -- facts of the block
  have clsub : ∀ x c, (clOf X.env scope.names []).lookup x = some c → X.env.cells.lookup x = some c := fun x c e => by
    rcases clOf_mem _ _ _ _ (lookup_memS e) with q | q
    · cases q
    · exact q
  have cD : ∀ x c, (clOf X.env scope.names []).lookup x = some c → c ≠ D := fun x c e z => by
    obtain ⟨v, q⟩ := I2.cell x c (clsub x c e)
    exact Nat.lt_irrefl _ (Nat.lt_of_lt_of_le q.lt (by rw [hDg, z]; exact Nat.le_refl _))
  have loop : ∀ s₃ : Shared, s₃ = { s2 with heap := h₁, toks := s2.toks + ([] : List (Str × Value)).length } →
      codeAny (model X.prog X.w) X.A (.compLoop (.ListComp elt [⟨tg, iter, [], 0⟩, ⟨tg2, iter2, [], 0⟩] scope pos) 0 (.ref it) (.ref D) (compEnvC scope (clOf X.env scope.names []) C X.env)) (RR (.ref D) C) s₃ := by
    rintro s₃ rfl
    have I3 : Inv (cxComp X scope (own ++ frn) C s2 H2 fp) [(D, _)] (blk own.length fr σ) H2 { s2 with heap := h₁, toks := s2.toks + ([] : List (Str × Value)).length } :=
      inv_comp (m := fun _ => none) I2 S f2 (by rw [hDg]; exact flt) (by rw [hDg]; exact hCle) (hns₁ : h₁.Ns C _) old (by rw [hDg]; exact Nat.le_refl _) hDC hacc (fun v z => by cases z)
    have stat : ∀ {H' : Hp} {pl : List (Addr × Obj)}, (∀ p ∈ pl, p.1 = D) → (∀ b ∈ fp, H' b = none) → ∀ b ∈ fp, FpOk (cxComp X scope (own ++ frn) C s2 H2 fp) pl H' b := fun {H' pl} hpl hn b hb => by
      refine ⟨hn b hb, (below b (flt b hb)).1, fun z => ?_, .inl hb, fun x c e => (f2 b hb).2.2.2.2.1 x c (clsub x c e), fun p hp => ?_⟩
      · have z' : b ∈ frs X.stack := z
        rcases List.mem_cons.mp (I2.stkSub b z') with e | e
        · exact (f2 b hb).2.1 e
        · exact (f2 b hb).2.2.1 e
      · have hp' : p ∈ pl := by simpa [cxComp] using hp
        rw [hpl p hp']
        exact Ne.symm (below b (flt b hb)).2
    refine compLoop_out (hs2 C) (env := compEnvC scope (clOf X.env scope.names []) C X.env) (fun n s' => ∃ i σ' H' ys its o, Inv (cxComp X scope (own ++ frn) C s2 H2 fp) [(D, o)] σ' H' s' ∧ s'.heap.PlainList D its ∧ Vals ys its.toList ∧ ys.length ≤ sizeLine ∧ tn i s'.heap ∧ (∀ b ∈ fp, H' b = none) ∧ W i n ys σ' H') ?_ m0
      ⟨0, _, H2, [], #[], _, I3, ⟨_, hacc⟩, .nil, Nat.zero_le _, st3, fun b hb => (f2 b hb).1, w0⟩
    rintro n s5 ⟨i, σ5, H5, ys, its, o, I5, pl5, v5, z5, st5, fr5, w5⟩
    have one : ∀ {o : Obj}, ∀ p ∈ [(D, o)], p.1 = D := fun p hp => by
      have e := List.mem_singleton.mp hp
      rw [e]
    rcases turn i n ys σ5 H5 w5 with ⟨stop, qn⟩ | ⟨go, N, hN, step⟩
    · refine wpAny_mono (T.done (cxComp X scope (own ++ frn) C s2 H2 fp) rfl rfl rfl hc i _ s5 σ5 H5 (fun _ _ => False) I5 (stat one fr5) st5 stop) (fun r s6 hx9 => ?_) fun _ _ z => z
      obtain ⟨hr, I6⟩ := hx9
      subst hr
      obtain ⟨m6, hn6, _⟩ := I6.loc
      have p6 := I6.pin (D, o) (by simp [cxComp])
      have p5' := I5.pin (D, o) (by simp [cxComp])
      have pl6 : s6.heap.PlainList D its := by
        obtain ⟨k, e⟩ := pl5
        have e1 : o = _ := Option.some.inj (p5'.1.symm.trans e)
        exact ⟨k, by rw [p6.1]; exact congrArg some e1⟩
      have IX : Inv X pins σ H5 s6 := I2.call' (ch := fp) I6.os I6.base I6.hok I6.bare fun b hb => ⟨(f2 b hb).2.2.2.1, (f2 b hb).2.1, (f2 b hb).2.2.2.2.1, (f2 b hb).2.2.2.2.2⟩
      exact hRR C D s6 H5 ys its m6 hCle (Nat.le_refl _) hDC hn6 I6.free p6.2.1 pl6 v5 z5 IX qn
    · refine wpAny_mono (T.item (cxComp X scope (own ++ frn) C s2 H2 fp) rfl rfl rfl hc i _ s5 σ5 H5 (fun _ _ => False) I5 (stat one fr5) st5 go) (fun r s6 hx9 => ?_) fun _ _ z => z
      obtain ⟨u, hr, h6⟩ := hx9
      subst hr
      refine wpAny_mono h6 (fun _ s7 hx9 => ?_) fun _ _ z => z
      obtain ⟨x, H7, I7, r7, y7, st7, fr7⟩ := hx9
      have I7' := I7.pinned (stat one fr7) (T.obj _ _ st7)
      refine wpAny_mono (hg C s2 H2 fp _ s7 σ5 H7 x u _ I7' r7 (step x H7 y7)) (fun _ s8 hx9 => ?_) fun _ _ z => z
      obtain ⟨σ8, H8, I8, q8⟩ := hx9
      refine wpAny_mono (hi2 C s2 H2 fp _ s8 σ8 H8 _ I8 q8) (fun v2 s9 h9 => wpAny_mono h9 (fun itv s10 h10 => ?_) fun _ _ z => z) fun _ _ z => z
      obtain ⟨it2, fp2, tn2, J2, H10, e10, I10, T2, st10, f10, w10⟩ := h10
      subst e10
      have DfsX : D ∉ frs X.stack := fun z => by
        rcases List.mem_cons.mp (I2.stkSub D z) with e | e
        · exact Nat.lt_irrefl _ (Nat.lt_of_lt_of_le I2.lt (by rw [hDg, e]; exact Nat.le_refl _))
        · exact I2.nofs (by rw [hDg]; exact Nat.le_refl _) e
      have p5' := I5.pin (D, o) (by simp [cxComp])
      have pl10 : s10.heap.PlainList D its := by
        have p' := I10.pin (D, o) (by simp [cxComp])
        obtain ⟨k, e⟩ := pl5
        have e1 : o = _ := Option.some.inj (p5'.1.symm.trans e)
        exact ⟨k, by rw [p'.1]; exact congrArg some e1⟩
      refine comp_inner (Y := cxComp X scope (own ++ frn) C s2 H2 fp) (ps := pinsAt fp s7.heap) (F := N) (fun _ _ z => z) hc T2 (hg2 C s2 H2 fp) (he C s2 H2 fp) hDC (.inr (by show s2.heap.objs.size ≤ D; rw [hDg]; exact Nat.le_refl _)) cD (fun p hp => by simp [cxComp] at hp) DfsX
        (fun p hp => (below p.1 (flt p.1 (of_pinsAt hp).1)).2) I10 pl10 v5 z5 st10 f10 w10 (fun s' σ' H' zs' its' o' I' pl' v' z' q' => ?_)
      obtain ⟨m', hm, w'⟩ := hN zs' σ' H' q'
      refine ⟨m', hm, i + 1, σ', H', zs', its', o', I'.pins_of fun p hp => ?_, pl', v', z', T.keep _ _ _ st7 fun b hb o e => (I'.pin (b, o) (List.mem_append_right _ (List.mem_cons_of_mem _ (mem_pinsAt hb e)))).1, fun b hb => ?_, w'⟩
      · have e := List.mem_singleton.mp hp
        subst e
        exact I'.pin _ (List.mem_append_right _ (List.mem_cons_self ..))
      · obtain ⟨o, e, d⟩ := T.obj _ _ st7 b hb
        exact (I'.pin (b, o) (List.mem_append_right _ (List.mem_cons_of_mem _ (mem_pinsAt hb e)))).2.1
  exact codeAny_compStart_list (loop _ rfl) (T.self X.A 0 _ _ _ st3 (loop _ rfl))

theorem pe_comp2 (S : CompOk X scope own fr frn) (hc : X.calm = true) (hi : PI X tg iter wi) (hg : ∀ C s0 H0 fp, PG (cxComp X scope (own ++ frn) C s0 H0 fp) tg g) (hi2 : ∀ C s0 H0 fp, PI (cxComp X scope (own ++ frn) C s0 H0 fp) tg2 iter2 wi2) (hg2 : ∀ C s0 H0 fp, PG (cxComp X scope (own ++ frn) C s0 H0 fp) tg2 g2)
    (he : ∀ C s0 H0 fp, PE (cxComp X scope (own ++ frn) C s0 H0 fp) elt te) (hs : ∀ x, foldedSetIterable iter X.env x = pure x := by intro _; rfl) (hs2 : ∀ C x, foldedSetIterable iter2 (compEnvC scope (clOf X.env scope.names []) C X.env) x = pure x := by intro _ _; rfl) :
    PE X (.ListComp elt [⟨tg, iter, [], 0⟩, ⟨tg2, iter2, [], 0⟩] scope pos) (tComp2 own.length fr wi g wi2 g2 te) := by
  intro pins s σ H Q I h
  obtain ⟨p1, p2, p3, p4, p5, p6, p7⟩ := S.parts
  rw [eval_ListComp]
  refine wpAny_comprehension_free (use := none) rfl hs (S.clo I) p1 p3 (thn (hi pins s σ H _ I h) fun v s1 h1 => thn h1 fun itv s2 h2 => ?_)
  obtain ⟨it, fp, tn, J, H2, e, I2, T, st2, f2, hw⟩ := h2
  subst e
  refine comp_block2 (RR := fun acc C => compPost (model X.prog X.w) X.A X.xe none (EP X pins σ Q) acc C) (Q := fun H ys => ∀ p, H p = none → Q (.ref p) (upd H p (.lst ys))) S hc I2 T st2 f2 hg hi2 hg2 he hs2 hw ?_
  intro C D s' H' ys its m hC hD hDC hns hHC hHD pl v z IX q
  have cne : ∀ a, s2.heap.objs.size ≤ a → ∀ x c, X.env.cells.lookup x = some c → c ≠ a := fun a ha x c e z => by
    obtain ⟨v, w⟩ := I2.cell x c e
    exact Nat.lt_irrefl _ (Nat.lt_of_lt_of_le w.lt (by rw [z]; exact ha))
  have pne : ∀ a, s2.heap.objs.size ≤ a → ∀ p ∈ X.pn ++ pins, p.1 ≠ a := fun a ha p hp z => Nat.lt_irrefl _ (Nat.lt_of_lt_of_le (Heap.lt_size (I2.pin p hp).1) (by rw [z]; exact ha))
  have lne : ∀ a, s2.heap.objs.size ≤ a → a ≠ X.env.locals := fun a ha z => Nat.lt_irrefl _ (Nat.lt_of_lt_of_le I2.lt (by rw [← z]; exact ha))
  refine ⟨m, hns, fun h' hs' => ⟨.ref D, upd H' D (.lst ys), ?_, rfl, q D hHD⟩⟩
  have IT : Inv X pins σ (upd H' D (.lst ys)) s' := IX.track pl v z hHD (lne D hD) (Nat.le_trans I2.sz hD) (cne D hD) (pne D hD)
  exact IT.turned (t' := s'.toks) (it := C) (fun b o hb e => (hs'.2 b hb).trans e) (by rw [upd_ne (Ne.symm hDC)]; exact hHC) (lne C hC) (.inr (Nat.le_trans I2.sz hC)) (cne C hC) (pne C hC)

end
end L2
set_option Elab.async false
set_option linter.all false
set_option maxRecDepth 100000
namespace L2
open PySem PySem.Spec PyProof.Rows
section
variable {own : Nat} {fr : List Nat} {g g2 : TG} {wi2 : TI} {te : TE} {σ : St} {H : Hp} {Qf : Hp → List V → Prop} {K : PySem.W.Frag}
def InnerOk (g2 : TG) (te : TE) (SH : St → Prop) (vs : List V) (σ2 : St) (J2 : It) (H4 : Hp) : Prop := ∃ SH2 : St → Prop, SH2 σ2 ∧ (∀ σ3, SH2 σ3 → SH σ3) ∧ (∀ H', Same H4 H' → J2.stop vs.length H') ∧ (∀ j H', j < vs.length → Same H4 H' → J2.go j H') ∧
  ∀ j v y σ3 H5 H6, vs[j]? = some v → SH2 σ3 → Same H4 H5 → J2.yld j H5 y H6 → ∀ Q : V → St → Hp → Prop, (∀ σ4 H7, SH2 σ4 → Same H5 H7 → Q v σ4 H7) → g2 y σ3 H6 fun σ4 H7 => te σ4 H7 fun z H8 => Q z σ4 H8
theorem flat_take {vss : List (List V)} {i : Nat} {vs : List V} (h : vss[i]? = some vs) : (vss.take (i + 1)).flatten = (vss.take i).flatten ++ vs := by
  rw [List.take_succ, h, List.flatten_append]; simp
theorem flat_len {vss : List (List V)} {i : Nat} {vs : List V} (h : vss[i]? = some vs) : (vss.take i).flatten.length + vs.length ≤ vss.flatten.length := by
  have e := congrArg List.flatten (List.take_append_drop (i + 1) vss)
  rw [List.flatten_append, flat_take h] at e
  rw [← e, List.length_append, List.length_append]
  omega
theorem comp2_it {J : It} {n : Nat} {vss : List (List V)} (SH : St → Prop) (hn : vss.flatten.length ≤ 1000) (hl : vss.length = n) (hσ : SH (blk own fr σ)) (hstop : ∀ H', Same H H' → J.stop n H') (hgo : ∀ i H', i < n → Same H H' → J.go i H')
    (hs : ∀ i vs x σ H1 H2, i < n → vss[i]? = some vs → SH σ → Same H H1 → J.yld i H1 x H2 → ∀ P : St → It → Hp → Prop, (∀ σ2 J2 H4, Same H1 H4 → InnerOk g2 te SH vs σ2 J2 H4 → P σ2 J2 H4) → g x σ H2 fun σ2 H3 => wi2 σ2 H3 fun J2 H4 => P σ2 J2 H4)
    (hd : ∀ H', Same H H' → Qf H' vss.flatten) :
    ∃ W : Nat → Nat → List V → St → Hp → Prop, (∃ m, W 0 m [] (blk own fr σ) H) ∧ ∀ i m ys σ' H, W i m ys σ' H →
      (J.stop i H ∧ Qf H ys) ∨
      (J.go i H ∧ ∃ N : List V → St → Hp → Prop, (∀ ys' σ2 H2, N ys' σ2 H2 → ∃ m', m' < m ∧ W (i + 1) m' ys' σ2 H2) ∧
        ∀ x H', J.yld i H x H' → g x σ' H' fun σ2 H2 => wi2 σ2 H2 fun J2 H3 => ∃ W2 : Nat → Nat → List V → St → Hp → Prop, (∃ m2, W2 0 m2 ys σ2 H3) ∧ ∀ j m2 zs σ3 H4, W2 j m2 zs σ3 H4 → (J2.stop j H4 ∧ N zs σ3 H4) ∨ (J2.go j H4 ∧ ∃ N2 : List V → St → Hp → Prop, (∀ zs' σ4 H5, N2 zs' σ4 H5 → ∃ m3, m3 < m2 ∧ W2 (j + 1) m3 zs' σ4 H5) ∧
          ∀ x H', J2.yld j H4 x H' → g2 x σ3 H' fun σ4 H5 => te σ4 H5 fun y H6 => zs.length < sizeLine ∧ N2 (zs ++ [y]) σ4 H6)) := by
  refine ⟨fun i m ys σ' H' => i ≤ n ∧ m = n - i ∧ ys = (vss.take i).flatten ∧ SH σ' ∧ Same H H', ⟨n, Nat.zero_le _, rfl, rfl, hσ, Same.refl H⟩, ?_⟩
  rintro i m ys σ' H1 ⟨hi, rfl, rfl, sh, s1⟩
  by_cases e : i = n
  · subst e
    refine .inl ⟨hstop H1 s1, ?_⟩
    rw [List.take_of_length_le (by omega)]
    exact hd H1 s1
  have hlt : i < n := by omega
  refine .inr ⟨hgo i H1 hlt s1, fun ys' σ2 H2 => ys' = (vss.take (i + 1)).flatten ∧ SH σ2 ∧ Same H H2, fun ys' σ2 H2 ⟨e1, e2, e3⟩ => ⟨n - (i + 1), by omega, by omega, rfl, e1, e2, e3⟩, fun x H2 hy => ?_⟩
  have hv : vss[i]? = some vss[i] := List.getElem?_eq_getElem (by omega)
  have hfl := flat_len hv
  refine hs i vss[i] x σ' H1 H2 hlt hv sh s1 hy _ fun σ2 J2 H4 s4 hx9 => ?_
  obtain ⟨SH2, sh2, hb, st2, go2, step2⟩ := hx9
  refine ⟨fun j m2 zs σ3 H5 => j ≤ (vss[i]).length ∧ m2 = (vss[i]).length - j ∧ zs = (vss.take i).flatten ++ (vss[i]).take j ∧ SH2 σ3 ∧ Same H4 H5, ⟨_, Nat.zero_le _, rfl, by rw [List.take_zero, List.append_nil], sh2, Same.refl _⟩, ?_⟩
  rintro j m2 zs σ3 H5 ⟨hj, rfl, rfl, sh3, s5⟩
  by_cases e2 : j = (vss[i]).length
  · refine .inl ⟨e2 ▸ st2 H5 s5, ?_, hb _ sh3, (s1.trans s4).trans s5⟩
    rw [flat_take hv, show (vss[i]).take j = vss[i] from List.take_of_length_le (by omega)]
  · have hjl : j < (vss[i]).length := by omega
    refine .inr ⟨go2 j H5 hjl s5, fun zs' σ4 H6 => zs' = (vss.take i).flatten ++ (vss[i]).take (j + 1) ∧ SH2 σ4 ∧ Same H4 H6, fun zs' σ4 H6 ⟨q1, q2, q3⟩ => ⟨(vss[i]).length - (j + 1), by omega, by omega, rfl, q1, q2, q3⟩, fun y H6 hy2 => ?_⟩
    have hvj : (vss[i])[j]? = some (vss[i])[j] := List.getElem?_eq_getElem hjl
    refine step2 j _ y σ3 H5 H6 hvj sh3 s5 hy2 _ fun σ4 H7 sh4 s7 => ⟨le1000 (n := ((vss.take i).flatten ++ (vss[i]).take j).length + 1) (by rw [List.length_append, List.length_take]; omega), ?_, sh4, s5.trans s7⟩
    rw [List.take_succ, hvj, ← List.append_assoc]
    rfl
end
section
variable {X : Cx}
end
end L2
set_option Elab.async false
set_option linter.all false
set_option maxRecDepth 100000
namespace L2
open PySem PySem.Spec PyProof.Rows

section
variable {κ : Type} [DecidableEq κ]
def valV (kvs : List (κ × V)) (k : κ) : Option V := (kvs.find? fun kv => decide (kv.1 = k)).map (·.2)
def putK (kvs : List (κ × V)) (k : κ) (v : V) : List (κ × V) :=
  if (kvs.any fun kv => decide (kv.1 = k)) = true then kvs.map (fun kv => if kv.1 = k then (kv.1, v) else kv) else kvs ++ [(k, v)]
def dropK (kvs : List (κ × V)) (k : κ) : List (κ × V) := kvs.filter fun kv => decide (kv.1 ≠ k)

theorem valV_pos {p : κ × V} {r : List (κ × V)} {k : κ} (e : p.1 = k) : valV (p :: r) k = some p.2 := by simp [valV, List.find?_cons, e]
theorem valV_neg {p : κ × V} {r : List (κ × V)} {k : κ} (e : ¬ p.1 = k) : valV (p :: r) k = valV r k := by simp [valV, List.find?_cons, e]
theorem valV_any (k : κ) : ∀ kvs : List (κ × V), (kvs.any fun kv => decide (kv.1 = k)) = (valV kvs k).isSome
  | [] => rfl
  | p :: r => by
    rw [List.any_cons]
    by_cases e : p.1 = k
    · simp only [valV_pos e, decide_eq_true e, Bool.true_or, Option.isSome_some]
    · rw [valV_neg e, decide_eq_false e, Bool.false_or]; exact valV_any k r
theorem RelO.isSome_eq {o : Option V} {u : Option Value} (r : RelO o u) : o.isSome = u.isSome := by
  cases o with
  | none => cases u with
    | none => rfl
    | some _ => exact (show False from r).elim
  | some _ => cases u with
    | none => exact (show False from r).elim
    | some _ => rfl
theorem RelO.getD {o : Option V} {u : Option Value} {d : V} {d' : Value} (r : RelO o u) (rd : RelV d d') : RelV (o.getD d) (u.getD d') := by
  cases o with
  | none => cases u with
    | none => exact rd
    | some _ => exact (show False from r).elim
  | some _ => cases u with
    | none => exact (show False from r).elim
    | some _ => exact r

theorem KV.val {kvs : List (κ × V)} {vs : List (κ × Value)} (r : KV kvs vs) (k : κ) : RelO (valV kvs k) (valueAt vs k) := by
  unfold KV at r
  induction r with
  | nil => exact True.intro
  | @cons p q ps qs h t ih =>
    obtain ⟨h1, h2⟩ := h
    by_cases e : p.1 = k
    · have e' : q.1 = k := h1.symm.trans e
      have b : valueAt (q :: qs) k = some q.2 := by simp [valueAt, List.find?_cons, e']
      rw [valV_pos e, b]; exact h2
    · have e' : ¬ q.1 = k := fun z => e (h1.trans z)
      have b : valueAt (q :: qs) k = valueAt qs k := by simp [valueAt, List.find?_cons, e']
      rw [valV_neg e, b]; exact ih
theorem KV.any {kvs : List (κ × V)} {vs : List (κ × Value)} (r : KV kvs vs) (k : κ) : (kvs.any fun kv => decide (kv.1 = k)) = vs.any fun kv => decide (kv.1 = k) := by
  unfold KV at r
  induction r with
  | nil => rfl
  | cons h t ih => rw [List.any_cons, List.any_cons, ih, h.1]
theorem KV.repl {kvs : List (κ × V)} {vs : List (κ × Value)} (r : KV kvs vs) (k : κ) {y : V} {u : Value} (ry : RelV y u) :
    KV (kvs.map fun kv => if kv.1 = k then (kv.1, y) else kv) (vs.map fun kv => if kv.1 = k then (kv.1, u) else kv) := by
  unfold KV at r ⊢
  induction r with
  | nil => exact .nil
  | @cons p q ps qs h t ih =>
    rw [List.map_cons, List.map_cons]
    refine .cons ?_ ih
    obtain ⟨h1, h2⟩ := h
    by_cases e : p.1 = k
    · rw [if_pos e, if_pos (h1.symm.trans e)]; exact ⟨h1, ry⟩
    · rw [if_neg e, if_neg (fun z => e (h1.trans z))]; exact ⟨h1, h2⟩
theorem KV.put {kvs : List (κ × V)} {vs : List (κ × Value)} (r : KV kvs vs) (k : κ) {y : V} {u : Value} (ry : RelV y u) : KV (putK kvs k y) (stored vs k u) := by
  unfold putK stored
  rw [r.any k]
  by_cases e : (vs.any fun kv => decide (kv.1 = k)) = true
  · rw [if_pos e, if_pos e]; exact r.repl k ry
  · rw [if_neg e, if_neg e]; exact Paired.snoc r ⟨rfl, ry⟩
theorem KV.drop {kvs : List (κ × V)} {vs : List (κ × Value)} (r : KV kvs vs) (k : κ) : KV (dropK kvs k) (without vs k) := by
  unfold KV at r ⊢
  unfold dropK without
  induction r with
  | nil => exact .nil
  | @cons p q ps qs h t ih =>
    obtain ⟨h1, h2⟩ := h
    rw [List.filter_cons, List.filter_cons]
    by_cases e : p.1 = k
    · have a : ¬ decide (p.1 ≠ k) = true := by simp [e]
      have b : ¬ decide (q.1 ≠ k) = true := by simp [h1.symm.trans e]
      rw [if_neg a, if_neg b]; exact ih
    · have e' : ¬ q.1 = k := fun z => e (h1.trans z)
      have a : decide (p.1 ≠ k) = true := by simp [e]
      have b : decide (q.1 ≠ k) = true := by simp [e']
      rw [if_pos a, if_pos b]; exact .cons ⟨h1, h2⟩ ih
theorem KV.keys {kvs : List (κ × V)} {vs : List (κ × Value)} (r : KV kvs vs) : kvs.map (·.1) = vs.map (·.1) := by
  unfold KV at r
  induction r with
  | nil => rfl
  | cons h t ih => rw [List.map_cons, List.map_cons, ih, h.1]
theorem KV.length {kvs : List (κ × V)} {vs : List (κ × Value)} (r : KV kvs vs) : kvs.length = vs.length := Paired.length r
end


abbrev KT (H : Hp) : List (List Key × V) → List (List Key × Addr × Value) → Prop := Paired fun p q => p.1 = q.1 ∧ H q.2.1 = some (.tup (p.1.map kV)) ∧ RelV p.2 q.2.2
theorem KT.val {H : Hp} {kvs : List (List Key × V)} {xs : List (List Key × Addr × Value)} (r : KT H kvs xs) (k : List Key) : RelO (valV kvs k) ((atKey xs k).map (·.2)) := by
  induction r with
  | nil => exact True.intro
  | @cons p q ps qs h t ih =>
    obtain ⟨h1, _, h2⟩ := h
    by_cases e : p.1 = k
    · have e' : q.1 = k := h1.symm.trans e
      have b : atKey (q :: qs) k = some q.2 := by simp [atKey, List.find?_cons, e']
      rw [valV_pos e, b]; exact h2
    · have e' : ¬ q.1 = k := fun z => e (h1.trans z)
      have b : atKey (q :: qs) k = atKey qs k := by simp [atKey, List.find?_cons, e']
      rw [valV_neg e, b]; exact ih
theorem KT.repl {H : Hp} {kvs : List (List Key × V)} {xs : List (List Key × Addr × Value)} (r : KT H kvs xs) (k : List Key) {y : V} {u : Value} (ry : RelV y u) :
    KT H (kvs.map fun kv => if kv.1 = k then (kv.1, y) else kv) (xs.map (putAt k u)) := by
  induction r with
  | nil => exact .nil
  | @cons p q ps qs h t ih =>
    rw [List.map_cons, List.map_cons]
    refine .cons ?_ ih
    obtain ⟨h1, h2, h3⟩ := h
    unfold putAt
    by_cases e : p.1 = k
    · rw [if_pos e, if_pos (h1.symm.trans e)]; exact ⟨h1, h2, ry⟩
    · rw [if_neg e, if_neg (fun z => e (h1.trans z))]; exact ⟨h1, h2, h3⟩
theorem KT.put {H : Hp} {kvs : List (List Key × V)} {xs : List (List Key × Addr × Value)} (r : KT H kvs xs) (k : List Key) {b : Addr} {y : V} {u : Value} (hb : H b = some (.tup (k.map kV))) (ry : RelV y u) :
    KT H (putK kvs k y) (storedH xs k b u) := by
  have e : (kvs.any fun kv => decide (kv.1 = k)) = (atKey xs k).isSome := by
    rw [valV_any, (r.val k).isSome_eq, Option.isSome_map]
  unfold putK storedH
  rw [e]
  by_cases q : (atKey xs k).isSome = true
  · rw [if_pos q, if_pos q]; exact r.repl k ry
  · rw [if_neg q, if_neg q]; exact Paired.snoc r ⟨rfl, hb, ry⟩
theorem KT.keeps {H H' : Hp} {kvs : List (List Key × V)} {xs : List (List Key × Addr × Value)} (r : KT H kvs xs) (ht : ∀ b ys, H b = some (.tup ys) → H' b = some (.tup ys)) : KT H' kvs xs :=
  Paired.mapP r fun _ _ z => ⟨z.1, ht _ _ z.2.1, z.2.2⟩

section
variable {P : Program} {w : World} {H : Hp} {h : Heap} {a : Addr}
end

def DGet (H : Hp) (a : Addr) (y : V) (r : Option V) : Prop :=
  (∃ kvs k, Rd H a (.dK kvs) ∧ y = kV k ∧ r = valV kvs k) ∨ ∃ kvs k b, Rd H a (.dT kvs) ∧ y = .ref b ∧ H b = some (.tup (k.map kV)) ∧ r = valV kvs k
def DPut (H : Hp) (a : Addr) (y v : V) (H' : Hp) : Prop :=
  (∃ kvs k, H a = some (.dK kvs) ∧ y = kV k ∧ kvs.length < sizeLine ∧ H' = upd H a (.dK (putK kvs k v))) ∨
  ∃ kvs k b, H a = some (.dT kvs) ∧ y = .ref b ∧ H b = some (.tup (k.map kV)) ∧ kvs.length < sizeLine ∧ H' = upd H a (.dT (putK kvs k v))
theorem DGet.k {H : Hp} {a : Addr} {kvs : List (Key × V)} {k : Key} (e : H a = some (.dK kvs)) : DGet H a (kV k) (valV kvs k) := .inl ⟨kvs, k, .inl e, rfl, rfl⟩
theorem DGet.t {H : Hp} {a b : Addr} {kvs : List (List Key × V)} {k : List Key} (e : H a = some (.dT kvs)) (eb : H b = some (.tup (k.map kV))) : DGet H a (.ref b) (valV kvs k) := .inr ⟨kvs, k, b, .inl e, rfl, eb, rfl⟩
theorem DPut.k {H : Hp} {a : Addr} {kvs : List (Key × V)} {k : Key} {v : V} (e : H a = some (.dK kvs)) (hl : kvs.length < sizeLine) : DPut H a (kV k) v (upd H a (.dK (putK kvs k v))) := .inl ⟨kvs, k, e, rfl, hl, rfl⟩
theorem DPut.t {H : Hp} {a b : Addr} {kvs : List (List Key × V)} {k : List Key} {v : V} (e : H a = some (.dT kvs)) (eb : H b = some (.tup (k.map kV))) (hl : kvs.length < sizeLine) :
    DPut H a (.ref b) v (upd H a (.dT (putK kvs k v))) := .inr ⟨kvs, k, b, e, rfl, eb, hl, rfl⟩


section
variable {X : Cx} {pins : List (Addr × Obj)} {σ : St} {H : Hp} {s : Shared} {a : Addr} {y v : V} {u r : Value} {o : Option V} {A : Around} {E : Value → Shared → Prop}

theorem Inv.big (I : Inv X pins σ H s) : sysModules < s.heap.objs.size := by
  have h : mainGlobals < s.heap.objs.size := (I.mod.glob.keeps I.bk).lt
  exact Nat.lt_trans (by decide) h

end

section
variable {X : Cx} {pins : List (Addr × Obj)} {σ : St} {H : Hp} {s : Shared} {a : Addr} {kvs : List (Key × V)} {k : Key} {u : Value} {A : Around} {E : Value → Shared → Prop}
end


section
variable {X : Cx} {o i e value : Expr} {pos pos' tpos : Pos} {td ty tv : TE}
end


section
variable {X : Cx} {pos : Pos}
end
end L2
set_option Elab.async false
set_option linter.all false
set_option maxRecDepth 100000
namespace L2
open PySem PySem.Spec PyProof.Rows
def NF (H0 : Hp) (a : Addr) : Prop := ∀ o u, H0 a ≠ some (.frz o u)
section
variable {X : Cx} {pins : List (Addr × Obj)} {σ : St} {H : Hp} {s : Shared} {a : Addr}
theorem Inv.nf {kvs : List (Key × V)} (I : Inv X pins σ H s) (e : H a = some (.dK kvs)) : NF X.H₀ a := fun o u z => by
  have := I.base.frzs a o u z
  rw [e] at this; cases this
end
section
variable {X : Cx} {tg : Expr}
end
end L2
set_option Elab.async false
set_option linter.all false
set_option maxRecDepth 100000
namespace L2
open PySem PySem.Spec PyProof.Rows
section
variable {X : Cx} {pos : Pos} {ek ev : Expr} {tk tv : TE}
end
end L2
set_option Elab.async false
set_option linter.all false
set_option maxRecDepth 100000
namespace L2
open PySem PySem.Spec PyProof.Rows
section
variable {prog : Program} {w : World} {A : Around} {E : Value → Shared → Prop} {s : Shared}
def ItemAt (h : Heap) (u : Value) (i : Int) (v : Value) : Prop := ∃ p, u = .ref p ∧ ((∃ its : Array Value, h.IsTuple p its ∧ 0 ≤ i ∧ i < 1000 ∧ its[i.toNat]? = some v) ∨ ∃ its : Array Value, h.IsList p its ∧ 0 ≤ i ∧ i < 1000 ∧ its[i.toNat]? = some v)
theorem ItemAt.keeps {h h' : Heap} {u : Value} {i : Int} {v : Value} (x : ItemAt h u i v) (k : ∀ b o, h.get? b = some o → h'.get? b = some o) : ItemAt h' u i v := by
  obtain ⟨p, rfl, ⟨its, ⟨o, ho, r⟩, q⟩ | ⟨its, ⟨o, ho, r⟩, q⟩⟩ := x
  · exact ⟨p, rfl, .inl ⟨its, ⟨o, k _ _ ho, r⟩, q⟩⟩
  · exact ⟨p, rfl, .inr ⟨its, ⟨o, k _ _ ho, r⟩, q⟩⟩
section
variable {R : Result → Shared → Prop} {I : Addr} {fp wr : List Addr} {n : Nat} {Pv : Nat → Value → Prop} {St : Nat → Heap → Prop} {f : Addr} {kf : Nat → Int} {L : List (Addr × Obj)}
end
end
end L2
set_option Elab.async false
set_option linter.all false
set_option maxRecDepth 100000
namespace L2
open PySem PySem.Spec PyProof.Rows
structure Lm (K : PySem.W.Frag) (mg : Str → Option Value) (base : Heap) (c P : Addr) : Prop where
  hd : PySem.W.codeHdIn K c P = true
  gP : mainGlobals ≠ P
  bu : base.BuiltinsAt mg P
section
variable {X : Cx} {pins : List (Addr × Obj)} {σ : St} {H : Hp} {s : Shared} {c P c' : Addr} {q : Str} {ps : Array Value} {h' : Heap} {t' : Nat}
end
end L2
set_option Elab.async false
set_option linter.all false
set_option maxRecDepth 100000
namespace L2
open PySem PySem.Spec PyProof.Rows
section
variable {X : Cx} {pins : List (Addr × Obj)} {σ : St} {H : Hp} {s : Shared}
theorem ItemAt.obj {h : Heap} {u : Value} {i : Int} {v : Value} (x : ItemAt h u i v) : ∃ p o, u = .ref p ∧ h.get? p = some o ∧ ∀ h' : Heap, h'.get? p = some o → ItemAt h' u i v := by
  obtain ⟨p, rfl, ⟨its, ⟨o, ho, r⟩, q⟩ | ⟨its, ⟨o, ho, r⟩, q⟩⟩ := x
  · exact ⟨p, o, rfl, ho, fun h' e => ⟨p, rfl, .inl ⟨its, ⟨o, e, r⟩, q⟩⟩⟩
  · exact ⟨p, o, rfl, ho, fun h' e => ⟨p, rfl, .inr ⟨its, ⟨o, e, r⟩, q⟩⟩⟩
end
end L2
set_option Elab.async false
set_option linter.all false
set_option maxRecDepth 100000
namespace L2
open PySem PySem.Spec PyProof.Rows
end L2
namespace L2
open PySem PySem.Spec PyProof.Rows
section
variable {P : Program} {w : World} {K : PySem.W.Frag} {mg : Str → Option Value} {base : Heap}
end
end L2
set_option Elab.async false
set_option linter.all false
set_option maxRecDepth 100000
namespace L2
open PySem PySem.Spec PyProof.Rows
abbrev IsZipG (h : Heap) (z TI TO : Addr) (f0 : Value) (f1 : Bool) : Prop :=
  h.get? z = some { cls := .type "zip", dict := none, data := .fields #[f0, .bool f1, .bool false, .ref TI, .ref TO], slots := #[] }
def F0 (f : Value) : Prop := f = .none ∨ ∃ a t, f = .int a t
section
variable {prog : Program} {w : World} {A : Around} {E : Value → Shared → Prop} {s : Shared} {z TI TO i1 i2 l1 l2 : Addr} {n1 n2 : Nat} {P1 P2 : Nat → Value → Prop} {st1 st2 : Nat → Heap → Prop}
structure ZipSt (h : Heap) (z TI TO i1 i2 : Addr) : Prop where
  hz : ∃ f0 f1, F0 f0 ∧ IsZipG h z TI TO f0 f1
  ti : IsPair h TI (.ref i1) (.ref i2)
  to : ∃ a b, IsPair h TO a b
end
end L2
set_option Elab.async false
set_option linter.all false
set_option maxRecDepth 100000
namespace L2
open PySem PySem.Spec PyProof.Rows
section
variable {X : Cx} {es : List Expr} {x1 : Nat} {tpos : Pos}
end
end L2
set_option Elab.async false
set_option linter.all false
namespace L2
open PySem
end L2
set_option Elab.async false
set_option linter.all false
namespace L2
open PySem
section
variable {X : Cx} {K : PySem.W.Frag} {pos : Pos}
def rTupOf (K : PySem.W.Frag) : List V → Hp → VK → Prop := fun xs H Q => ∃ p ys, xs = [.ref p] ∧ ((SqL K H p ys ∧ ∀ l, H l = none → Q (.ref l) (upd H l (.tup ys))) ∨ (SqT K H p ys ∧ Q (.ref p) H))
theorem kTupOf (hK : X.K = K) : CallR X (.type "tuple") (rTupOf K) := by subst hK; exact call_tuple_of
theorem kIn (hK : X.K = K) : OpR X (compareOp .In) (rIn K false) := by subst hK; exact op_in_seq
end
section
variable {α β γ δ ε ζ η θ ι κ : Type}
end
end L2
set_option Elab.async false
set_option linter.all false
set_option maxRecDepth 100000
namespace L2
open PySem PySem.Spec PyProof.Rows
section
variable {X : Cx}
end
section
variable {K : PySem.W.Frag} {own : Nat} {fr : List Nat} {g : TG} {te : TE} {σ : St} {H : Hp} {Qf : Hp → List V → Prop}
end
end L2
set_option Elab.async false
set_option linter.all false
set_option maxRecDepth 100000
namespace L2
open PySem PySem.Spec PyProof.Rows
structure Tb (L : Bool) (t : SetTable) (n m : Nat) : Prop where
  mask : (t.mask = 7 ∧ n ≤ m) ∨ (t.mask = 31 ∧ n ≤ 12)
  dums : t.dummies = #[]
  plain : t.plain = true
  led : t.led = L
  size : t.place.size = n
  rise : t.place.toList.Pairwise (· < ·)
end L2
set_option Elab.async false
set_option linter.all false
set_option maxRecDepth 100000
namespace L2
open PySem PySem.Spec PyProof.Rows
end L2
set_option Elab.async false
set_option linter.all false
set_option maxRecDepth 100000
namespace L2
open PySem PySem.Spec PyProof.Rows
def ent (p : Int × Tok) : Int × Value := (hashInt p.1, .int p.1 p.2)
def SG (L : Bool) (h : Heap) (a : Addr) (ks : List (Int × Tok)) : Prop := ∃ o ep es t, h.get? a = some o ∧ o.ExactSet ∧ o.data = .set es ep t ∧ es.toList.Perm (ks.map ent) ∧ Tb L t es.size 4
theorem SG.keep {L : Bool} {h h' : Heap} {a : Addr} {l : List (Int × Tok)} (x : SG L h a l) (k : ∀ o, h.get? a = some o → h'.get? a = some o) : SG L h' a l := by
  obtain ⟨o, ep, es, t, e, r⟩ := x
  exact ⟨o, ep, es, t, k o e, r⟩
section
variable {prog : Program} {w : World} {A : Around} {E : Value → Shared → Prop} {s : Shared} {L : Bool} {a : Addr}
structure KsOf (ks : List (Int × Tok)) (ns : List Int) : Prop where
  nd : (ks.map (·.1)).Nodup
  mem : ∀ k, k ∈ ks.map (·.1) ↔ k ∈ ns
  len : ks.length ≤ ns.length
end
end L2
set_option Elab.async false
set_option linter.all false
set_option maxRecDepth 100000
namespace L2
open PySem PySem.Spec PyProof.Rows
section
variable {prog : Program} {w : World} {A : Around} {E : Value → Shared → Prop} {s : Shared} {S : Addr} {o : Obj} {ep : Nat} {es : Array (Int × Value)} {t : SetTable}
end
section
variable {X : Cx}
end
end L2
set_option Elab.async false
set_option linter.all false
set_option maxRecDepth 100000
namespace L2
open PySem PySem.Spec PyProof.Rows
open PySem.AutoSeq1 (wpAny_loadPart')
end L2
set_option Elab.async false
set_option linter.all false
set_option maxRecDepth 100000
namespace L2
open PySem PySem.Spec PyProof.Rows
structure Zip3Apart (z TI TO i1 i2 i3 l1 l2 l3 : Addr) : Prop where
  TIz : TI ≠ z
  TOz : TO ≠ z
  i1z : i1 ≠ z
  i2z : i2 ≠ z
  i3z : i3 ≠ z
  TITO : TI ≠ TO
  TIi1 : TI ≠ i1
  TIi2 : TI ≠ i2
  TIi3 : TI ≠ i3
  TOi1 : TO ≠ i1
  TOi2 : TO ≠ i2
  TOi3 : TO ≠ i3
  i12 : i1 ≠ i2
  i13 : i1 ≠ i3
  i23 : i2 ≠ i3
  l1 : ∀ c ∈ [z, TO, i1, i2, i3], l1 ≠ c
  l2 : ∀ c ∈ [z, TO, i1, i2, i3], l2 ≠ c
  l3 : ∀ c ∈ [z, TO, i1, i2, i3], l3 ≠ c
section
variable {prog : Program} {w : World} {A : Around} {E : Value → Shared → Prop} {s : Shared} {z TI TO i1 i2 i3 l1 l2 l3 : Addr} {n n2 n3 : Nat} {P1 P2 P3 : Nat → Value → Prop} {st1 st2 st3 : Nat → Heap → Prop}
end
end L2
set_option Elab.async false
set_option linter.all false
set_option maxRecDepth 100000
namespace L2
open PySem PySem.Spec PyProof.Rows
section
variable (k1 k2 k3 : Sk) (h : Heap) (a b d : Addr)
end
section
variable {X : Cx} {es : List Expr} {x1 : Nat} {tpos : Pos}
end
end L2
set_option Elab.async false
set_option linter.all false
set_option maxRecDepth 100000
namespace L2
open PySem PySem.Spec PyProof.Rows
section
variable {K : PySem.W.Frag} {own : Nat} {fr : List Nat} {g : TG} {te : TE} {σ : St} {H : Hp} {Qf : Hp → List V → Prop}
end
end L2
set_option Elab.async false
set_option linter.all false
set_option maxRecDepth 100000
namespace L2
open PySem PySem.Spec PyProof.Rows
section
variable {X : Cx} {K : PySem.W.Frag}
end
end L2
set_option Elab.async false
set_option linter.all false
set_option maxRecDepth 100000
namespace L2
open PySem PySem.Spec PyProof.Rows
section
variable {X : Cx} {scope : Scope} {own frn : List Str} {fr : List Nat} {kx vx tg iter : Expr} {ifs : List Expr} {pos : Pos} {wi : TI} {g : TG} {tt : TT} {tk tv : TE}
end
end L2
set_option Elab.async false
set_option linter.all false
set_option maxRecDepth 100000
namespace L2
open PySem PySem.Spec PyProof.Rows
section
variable {X : Cx} {scope : Scope} {own frn : List Str} {fr : List Nat} {e elt tg d : Expr} {ifs : List Expr} {pos : Pos} {t td : TE} {g : TG} {tt : TT} {te : TE}
end
end L2
set_option Elab.async false
set_option linter.all false
set_option maxRecDepth 100000
namespace L2
open PySem PySem.Spec PyProof.Rows
section
variable {X : Cx}
end
end L2
set_option Elab.async false
set_option linter.all false
set_option maxRecDepth 100000
namespace L2
open PySem PySem.Spec PyProof.Rows
section
variable {X : Cx}
end
end L2
namespace L2
open PySem PySem.Spec PyProof.Rows
section
variable {X : Cx}
end
end L2
set_option Elab.async false
set_option linter.all false
set_option maxRecDepth 100000
namespace L2
open PySem PySem.Spec PyProof.Rows
section
variable {X : Cx}
end
end L2
set_option Elab.async false
set_option linter.all false
set_option maxRecDepth 100000
namespace L2
open PySem PySem.Spec PyProof.Rows
section
variable {P : Program} {w : World} {A : Around} {E : Value → Shared → Prop} {s : Shared} {it d : Addr} {i ep : Nat} {es : Array DictEntry} {ob : Obj}
end
section
variable {X : Cx} {pins : List (Addr × Obj)} {σ : St} {H : Hp} {s : Shared} {a : Addr}
end
theorem KT.length {H : Hp} {kvs : List (List Key × V)} {xs : List (List Key × Addr × Value)} (r : KT H kvs xs) : kvs.length = xs.length := by
  induction r with
  | nil => rfl
  | cons _ _ ih => rw [List.length_cons, List.length_cons, ih]
theorem KT.at {H : Hp} {kvs : List (List Key × V)} {xs : List (List Key × Addr × Value)} (r : KT H kvs xs) : ∀ {i : Nat} {p : List Key × V} {x : List Key × Addr × Value}, kvs[i]? = some p → xs[i]? = some x → p.1 = x.1 ∧ H x.2.1 = some (.tup (p.1.map kV)) := by
  induction r with
  | nil => intro i p x h; simp at h
  | cons h1 _ ih =>
    intro i p x hp hx
    cases i with
    | zero =>
      simp only [List.getElem?_cons_zero, Option.some.injEq] at hp hx
      subst hp hx
      exact ⟨h1.1, h1.2.1⟩
    | succ j =>
      simp only [List.getElem?_cons_succ] at hp hx
      exact ih hp hx
section
variable {X : Cx} {tg : Expr}
end
end L2
set_option Elab.async false
set_option linter.all false
set_option maxRecDepth 100000
namespace L2
open PySem PySem.Spec PyProof.Rows
section
variable {X : Cx} {pos : Pos} {ek ev : Expr} {tk tv : TE}
end
end L2
set_option Elab.async false
set_option linter.all false
set_option maxRecDepth 100000
namespace L2
open PySem PySem.Spec PyProof.Rows
abbrev KE := List Key × Addr × V
def kvE (e : KE) : List Key × V := (e.1, e.2.2)
def Kp (ys : List KE) (H : Hp) : Prop := ∀ e ∈ ys, H e.2.1 = some (.tup (e.1.map kV))
def KY (ys : List KE) (its : List (List Key × Addr × Value)) : Prop := Paired (fun (p : KE) (q : List Key × Addr × Value) => p.1 = q.1 ∧ p.2.1 = q.2.1 ∧ RelV p.2.2 q.2.2) ys its
def DH (P : Program) (w : World) (h : Heap) (D : Addr) (its : List (List Key × Addr × Value)) : Prop := ∃ o es ep, h.get? D = some o ∧ o.ExactDict ∧ o.data = .dict es ep ∧ es.toList = its.map (entryOfKey (tupleKind (mixKind P w))) ∧ (its.map (·.1)).Nodup
theorem Kp.wr {ys : List KE} {H : Hp} {D : Addr} {o : HO} (h : Kp ys H) (n : H D = none) : Kp ys (upd H D o) := fun e he => by
  rw [upd_ne (fun z => by have q := h e he; rw [z, n] at q; cases q)]
  exact h e he
theorem KY.length {ys : List KE} {its : List (List Key × Addr × Value)} (r : KY ys its) : ys.length = its.length := by
  induction r with
  | nil => rfl
  | cons _ _ ih => rw [List.length_cons, List.length_cons, ih]
theorem KY.kt {ys : List KE} {its : List (List Key × Addr × Value)} {H : Hp} (r : KY ys its) : Kp ys H → KT H (ys.map kvE) its := by
  induction r with
  | nil => intro _; exact .nil
  | cons h1 _ ih => intro hp; exact .cons ⟨h1.1, by rw [← h1.2.1]; exact hp _ (List.mem_cons_self ..), h1.2.2⟩ (ih fun e he => hp e (List.mem_cons_of_mem _ he))
theorem KY.snoc {ys : List KE} {its : List (List Key × Addr × Value)} {k : List Key} {b : Addr} {y : V} {v : Value} (r : KY ys its) (h : RelV y v) : KY (ys ++ [(k, b, y)]) (its ++ [(k, b, v)]) := by
  induction r with
  | nil => exact .cons ⟨rfl, rfl, h⟩ .nil
  | cons h1 _ ih => exact .cons h1 ih
theorem KY.keys {ys : List KE} {its : List (List Key × Addr × Value)} (r : KY ys its) : ys.map (·.1) = its.map (·.1) := by
  induction r with
  | nil => rfl
  | cons h1 _ ih => rw [List.map_cons, List.map_cons, ih, h1.1]
theorem DH.at {P : Program} {w : World} {h h' : Heap} {D : Addr} {its : List (List Key × Addr × Value)} (d : DH P w h D its) (k : ∀ o, h.get? D = some o → h'.get? D = some o) : DH P w h' D its := let ⟨o, es, ep, h1, r⟩ := d; ⟨o, es, ep, k _ h1, r⟩
theorem DH.of {P : Program} {w : World} {h : Heap} {D : Addr} {its : List (List Key × Addr × Value)} (d : h.DictOfH (tupleKind (mixKind P w)) D its) : DH P w h D its := let ⟨o, es, ep, h1, h2, h3, h4, _, h5⟩ := d; ⟨o, es, ep, h1, h2, h3, h4, h5⟩
section
variable {X : Cx} {scope : Scope} {own frn : List Str} {fr : List Nat} {kx vx tg iter : Expr} {ifs : List Expr} {pos : Pos} {wi : TI} {g : TG} {tt : TT} {tk tv : TE}
end
section
variable {X : Cx} {scope : Scope} {own frn : List Str} {fr : List Nat} {e elt kx vx tg d : Expr} {ifs : List Expr} {pos : Pos} {t td : TE} {g : TG} {tt : TT} {te tk tv : TE}
end
end L2
set_option Elab.async false
set_option linter.all false
set_option maxRecDepth 100000
namespace L2
open PySem PySem.Spec PyProof.Rows
section
variable {P : Program} {w : World} {A : Around} {E : Value → Shared → Prop} {s : Shared} {it d v : Addr} {i ep : Nat} {es : Array DictEntry} {ob : Obj}
end
theorem KT.vals {H : Hp} {kvs : List (List Key × V)} {xs : List (List Key × Addr × Value)} (r : KT H kvs xs) : ∀ {i : Nat} {p : List Key × V} {x : List Key × Addr × Value}, kvs[i]? = some p → xs[i]? = some x → RelV p.2 x.2.2 := by
  induction r with
  | nil => intro i p x h; simp at h
  | cons h1 _ ih =>
    intro i p x hp hx
    cases i with
    | zero =>
      simp only [List.getElem?_cons_zero, Option.some.injEq] at hp hx
      subst hp hx
      exact h1.2.2
    | succ j =>
      simp only [List.getElem?_cons_succ] at hp hx
      exact ih hp hx
section
variable {X : Cx} {o : Expr} {to : TE} {p apos cpos pos : Pos}
end
end L2
set_option Elab.async false
set_option linter.all false
set_option maxRecDepth 100000
namespace L2
open PySem PySem.Spec PyProof.Rows
structure KsU (ks : List (Int × Tok)) (ns : List Int) : Prop where
  nd : (ks.map (·.1)).Nodup
  mem : ∀ k, k ∈ ks.map (·.1) ↔ k ∈ ns
theorem KsU.old {ks : List (Int × Tok)} {ns : List Int} {k : Int} (h : KsU ks ns) (q : ∃ p ∈ ks, p.1 = k) : KsU ks (ns ++ [k]) := ⟨h.nd, fun x => by
  rw [h.mem, List.mem_append, List.mem_singleton]
  refine ⟨.inl, fun z => ?_⟩
  rcases z with z | z
  · exact z
  · obtain ⟨p, hp, e⟩ := q
    rw [z, ← e]
    exact (h.mem _).mp (List.mem_map.mpr ⟨p, hp, rfl⟩)⟩
theorem KsU.new {ks : List (Int × Tok)} {ns : List Int} {k : Int} {t : Tok} (h : KsU ks ns) (q : ∀ p ∈ ks, p.1 ≠ k) : KsU ((k, t) :: ks) (ns ++ [k]) := ⟨by
  rw [List.map_cons]
  refine List.nodup_cons.mpr ⟨fun m => ?_, h.nd⟩
  obtain ⟨p, hp, e⟩ := List.mem_map.mp m
  exact q p hp e, fun x => by
  rw [List.map_cons, List.mem_cons, h.mem, List.mem_append, List.mem_singleton]
  exact Or.comm⟩
section
variable {prog : Program} {w : World} {A : Around} {E : Value → Shared → Prop} {s : Shared} {L : Bool} {a : Addr}
end
section
variable {X : Cx} {scope : Scope} {own frn : List Str} {fr : List Nat} {elt tg iter : Expr} {ifs : List Expr} {pos : Pos} {wi : TI} {g : TG} {tt : TT} {te : TE}
end
section
variable {X : Cx} {scope : Scope} {own frn : List Str} {fr : List Nat} {elt tg d : Expr} {ifs : List Expr} {pos : Pos} {td : TE} {g : TG} {tt : TT} {te : TE}
end
end L2
set_option Elab.async false
set_option linter.all false
set_option maxRecDepth 100000
namespace L2
open PySem PySem.Spec PyProof.Rows
end L2
set_option Elab.async false
set_option linter.all false
set_option maxRecDepth 100000
namespace L2
open PySem PySem.Spec PyProof.Rows
end L2
set_option Elab.async false
set_option linter.all false
set_option maxRecDepth 100000
namespace L2
open PySem PySem.Spec PyProof.Rows
theorem strs_vals : ∀ {ps : List Str} {us : List Value}, Vals (ps.map V.str) us → ∃ l : List (Str × Tok), us = strValues l ∧ l.map (·.1) = ps
  | [], us, h => by cases h; exact ⟨[], rfl, rfl⟩
  | p :: ps, us, h => by
    cases h with
    | cons r t =>
      obtain ⟨k, rfl⟩ := r
      obtain ⟨l, rfl, rfl⟩ := strs_vals t
      exact ⟨(p, k) :: l, rfl, rfl⟩
theorem vals_strs : ∀ (l : List (Str × Tok)), Vals ((l.map (·.1)).map V.str) (strValues l)
  | [] => .nil
  | p :: l => .cons ⟨p.2, rfl⟩ (vals_strs l)
section
variable {X : Cx} {K : PySem.W.Frag}
theorem mt_join (hK : X.K = K) : MtR X "str.join" (fun x vs H Q => ∃ (sep : Str) (a : Addr) (ps : List Str), x = .str sep ∧ vs = [.ref a] ∧ SqL K H a (ps.map V.str) ∧ JoinOk sep ps = true ∧ Q (.str (sep.join ps)) H) := by
  subst hK
  intro pins s σ H x xs v us Q I rx r h
  obtain ⟨sep, a, ps, rfl, rfl, ha, hj, q⟩ := h
  obtain ⟨u, rfl, e⟩ := vals1 r
  cases e
  obtain ⟨tk, rfl⟩ := rx
  obtain ⟨its, rv, pl, hz⟩ := I.list ha
  obtain ⟨l, rfl, hl⟩ := strs_vals rv
  refine SC.join pl.isList hl hj fun t' k => ⟨.str _, H, I.tok _, ⟨_, rfl⟩, ?_⟩
  rw [show Txt.join sep ps = sep.join ps from StrLaws.glued_eq_join sep ps]
  exact q
theorem mt_split : MtR X "str.split" (fun x vs H Q => ∃ (t y : Str), x = .str t ∧ vs = [.str y] ∧ (y.length == 0) = false ∧ t.length + 2 ≤ sizeLine ∧ ∀ p, H p = none → Q (.ref p) (upd H p (.lst ((Txt.split t y).map V.str)))) := by
  intro pins s σ H x xs v us Q I rx r h
  obtain ⟨t, y, rfl, rfl, hy, ht, q⟩ := h
  obtain ⟨u, rfl, e⟩ := vals1 r
  obtain ⟨tk, rfl⟩ := rx
  obtain ⟨tk2, rfl⟩ := e
  have fin : ∀ (l : List (Str × Tok)) (k : Nat), l.map (·.1) = Txt.split t y → l.length ≤ sizeLine → EP X pins σ Q (.ref s.heap.objs.size) { s with heap := s.heap.push { cls := .type "list", data := .seq (strValues l).toArray }, toks := k } := fun l k e hl =>
    ⟨.ref s.heap.objs.size, _, I.laid (t' := k) (o := .lst ((Txt.split t y).map V.str)) (fun b ob q => Heap.get?_push_of_some _ q) (Nat.le_refl _) ⟨by rw [← e, List.length_map, List.length_map]; exact hl, strValues l, 0, by rw [← e]; exact vals_strs l, Heap.get?_push_size _ rfl⟩, rfl, q _ (I.hok.fresh (Nat.le_refl _))⟩
  have one : ∀ k, Txt.split t y = [t] → EP X pins σ Q (.ref s.heap.objs.size) { s with heap := s.heap.push { cls := .type "list", data := .seq #[.str t tk] }, toks := k } := fun k e => fin [(t, tk)] k e.symm (by rw [sizeLine_eq]; simp)
  by_cases h1 : (decide (t.length < y.length) || decide (Builtin.Str.strKind t < Builtin.Str.strKind y)) = true
  · have e : Txt.split t y = [t] := if_pos h1
    exact call_meets PySem.F.slot_str_split (typeIs_str _ _ _) PySem.F.entry_str_split (PySem.F.args_str_split_2 _ _) (meets_str_split_cannot_occur t y tk tk2 h1) (one s.toks e)
  · rw [Bool.not_eq_true] at h1
    by_cases h2 : (Builtin.Str.occurrences t y 0 t.length (t.length + 1)).isEmpty = true
    · have e : Txt.split t y = [t] := by unfold Txt.split; rw [h1, h2]; rfl
      exact call_meets PySem.F.slot_str_split (typeIs_str _ _ _) PySem.F.entry_str_split (PySem.F.args_str_split_2 _ _) (meets_str_split_not_found t y tk tk2 h1 hy h2) (one s.toks e)
    · rw [Bool.not_eq_true] at h2
      have e : Txt.split t y = Builtin.Str.partsBetween t (Builtin.Str.occurrences t y 0 t.length (t.length + 1)) y.length := by unfold Txt.split; rw [h1, h2]; rfl
      have hn : (Builtin.Str.partsBetween t (Builtin.Str.occurrences t y 0 t.length (t.length + 1)) y.length).length ≤ sizeLine := by
        rw [length_partsBetween]
        have := StrLaws.occ_length_le_len t y 0 t.length (t.length + 1)
        omega
      refine call_meets PySem.F.slot_str_split (typeIs_str _ _ _) PySem.F.entry_str_split (PySem.F.args_str_split_2 _ _) (meets_str_split_sep t y tk tk2 h1 hy h2 (by omega) hn) ?_
      rw [strsFrom_eq]
      exact fin (numbered s.toks _) _ ((numbered_texts _ _).trans e.symm) (by rw [← List.length_map (f := (·.1)), numbered_texts]; exact hn)
theorem call_intS : CallR X (.type "int") (fun xs H Q => ∃ (x : Str) (n : Int), xs = [.str x] ∧ intText? x = some n ∧ x.length ≤ 640 ∧ Q (.int n) H) := by
  intro pins s σ H xs us Q I r h
  obtain ⟨x, n, rfl, hn, hl, q⟩ := h
  obtain ⟨u, rfl, e⟩ := vals1 r
  obtain ⟨tk, rfl⟩ := e
  exact PySem.W.KIN.call_text hn hl ⟨.int n, H, I.tok _, ⟨_, rfl⟩, q⟩
def tFmt (te : TE) : TE := fun σ H Q => te σ H fun x H1 => ∃ i : Int, x = .int i ∧ i.natAbs.log2 < 1920 ∧ Q (.str (toString i)) H1
theorem pe_fmt {e : Expr} {te : TE} {pos : Pos} (he : PE X e te) : PE X (.FormattedValue e (-1) none pos) (tFmt te) := by
  intro pins s σ H Q I h
  refine wpAny_FormattedValue_plain (thn (he pins s σ H _ I h) fun v s1 h1 => ?_)
  obtain ⟨x, H1, I1, r, i, rfl, hi, q⟩ := h1
  obtain ⟨tk, rfl⟩ := r
  exact wpAny_formatField_int hi ⟨.str _, H1, I1.tok _, ⟨_, rfl⟩, q⟩
theorem pe_js1 {e : Expr} {te : TE} {pos : Pos} (he : PE X e te) : PE X (.JoinedStr [e] pos) te := fun pins s σ H Q I h => wpAny_JoinedStr_one (he pins s σ H Q I h)
def tJ2 (ta tb : TE) : TE := fun σ H Q => ta σ H fun x H1 => ∃ y : Str, x = .str y ∧ y.length ≤ sizeLine ∧ tb σ H1 fun x2 H2 => ∃ z : Str, x2 = .str z ∧ (y ++ z).length ≤ sizeLine ∧ Q (.str (y ++ z)) H2
theorem emp_app (y : Str) : Str.empty ++ y = y := by
  cases y with
  | mk c => exact congrArg Str.mk Array.empty_append
theorem pe_js2 {a b : Expr} {ta tb : TE} {pos : Pos} (ha : PE X a ta) (hb : PE X b tb) : PE X (.JoinedStr [a, b] pos) (tJ2 ta tb) := by
  intro pins s σ H Q I h
  refine wpAny_JoinedStr ?_
  show wpAny _ _ (eval a X.env) _ _ s
  refine thn (ha pins s σ H _ I h) fun v s1 h1 => ?_
  obtain ⟨x, H1, I1, r1, y, rfl, hy, h⟩ := h1
  obtain ⟨tk, rfl⟩ := r1
  refine ⟨y, tk, rfl, by rw [emp_app]; exact hy, ?_⟩
  show wpAny _ _ (eval b X.env) _ _ s1
  refine thn (hb pins s1 σ H1 _ I1 h) fun v s2 h2 => ?_
  obtain ⟨x, H2, I2, r2, z, rfl, hz, q⟩ := h2
  obtain ⟨tk2, rfl⟩ := r2
  rw [emp_app]
  exact ⟨z, tk2, rfl, hz, hz, .str _, H2, I2.tok _, ⟨_, rfl⟩, q⟩
def tJ3 (ta tb tc : TE) : TE := fun σ H Q => ta σ H fun x H1 => ∃ y : Str, x = .str y ∧ y.length ≤ sizeLine ∧ tb σ H1 fun x2 H2 => ∃ z : Str, x2 = .str z ∧ (y ++ z).length ≤ sizeLine ∧ tc σ H2 fun x3 H3 => ∃ u : Str, x3 = .str u ∧ (y ++ z ++ u).length ≤ sizeLine ∧ Q (.str (y ++ z ++ u)) H3
theorem pe_js3 {a b c : Expr} {ta tb tc : TE} {pos : Pos} (ha : PE X a ta) (hb : PE X b tb) (hc : PE X c tc) : PE X (.JoinedStr [a, b, c] pos) (tJ3 ta tb tc) := by
  intro pins s σ H Q I h
  refine wpAny_JoinedStr ?_
  show wpAny _ _ (eval a X.env) _ _ s
  refine thn (ha pins s σ H _ I h) fun v s1 h1 => ?_
  obtain ⟨x, H1, I1, r1, y, rfl, hy, h⟩ := h1
  obtain ⟨tk, rfl⟩ := r1
  refine ⟨y, tk, rfl, by rw [emp_app]; exact hy, ?_⟩
  show wpAny _ _ (eval b X.env) _ _ s1
  refine thn (hb pins s1 σ H1 _ I1 h) fun v s2 h2 => ?_
  obtain ⟨x, H2, I2, r2, z, rfl, hz, h⟩ := h2
  obtain ⟨tk2, rfl⟩ := r2
  rw [emp_app]
  refine ⟨z, tk2, rfl, hz, ?_⟩
  show wpAny _ _ (eval c X.env) _ _ s2
  refine thn (hc pins s2 σ H2 _ I2 h) fun v s3 h3 => ?_
  obtain ⟨x, H3, I3, r3, w, rfl, hw, q⟩ := h3
  obtain ⟨tk3, rfl⟩ := r3
  exact ⟨w, tk3, rfl, hw, hw, .str _, H3, I3.tok _, ⟨_, rfl⟩, q⟩
def Its (x : Str) : It where
  go := fun i _ => i < x.cps.size
  yld := fun i H v H' => H' = H ∧ ∃ c, x.cps[i]? = some c ∧ v = .str ⟨#[c]⟩
  stop := fun i _ => i = x.cps.size
def iStr (tl : TE) : TI := fun σ H R => tl σ H fun x H1 => ∃ z : Str, x = .str z ∧ z.cps.all (· < 128) = true ∧ R (Its z) H1
theorem turn_str {P : Program} {w : World} {tg : Expr} (it : Addr) (x : Str) (t : Tok) : Turn P w K tg (Its x) [it] it (fun i h => h.IsStrIter it "str_ascii_iterator" x t i) where
  mem := by simp
  obj := fun i h st b hb => by
    have e : b = it := by simpa using hb
    subst e
    obtain ⟨o, e, c, d⟩ := st
    exact ⟨o, e, fun v z => by rw [d] at z; cases z⟩
  keep := fun i h h' st k => let ⟨o, ho, r⟩ := st; ⟨o, k it (by simp) o ho, r⟩
  item := by
    intro X hP hw hK hc i pins s σ H E I hf st hg
    subst hP hw hK
    obtain ⟨f0, f1, f2, f3, f4, f5⟩ := hf it (by simp)
    refine (Walks.strAscii (prog := X.prog) (w := X.w) (I.ok.hd hc) it x t).item i s _ _ hg st fun v h' tk hv st' kp => ?_
    obtain ⟨c, u, hc, rfl⟩ := hv
    refine ⟨_, rfl, ?_⟩
    have I1 : Inv X pins σ H { s with heap := h', toks := tk } := I.turned (t' := tk) (fun b o hb e => kp b o (by simpa using hb) e) f0 f1 f3 f4 f5
    unfold letOwnedTupleGo
    cases tg <;> exact wpAny_pure ⟨.str ⟨#[c]⟩, H, I1, ⟨_, rfl⟩, ⟨rfl, c, hc, rfl⟩, st', fun b hb => (hf b hb).1⟩
  done := by
    intro X hP hw hK hc i pins s σ H E I hf st hg
    subst hP hw hK
    obtain ⟨f0, f1, f2, f3, f4, f5⟩ := hf it (by simp)
    have e : i = x.cps.size := hg
    subst e
    exact (Walks.strAscii (prog := X.prog) (w := X.w) (I.ok.hd hc) it x t).done s _ _ st fun h' tk kp => ⟨rfl, I.turned (t' := tk) (fun b o hb e => kp b o (by simpa using hb) e) f0 f1 f3 f4 f5⟩
  self := fun _ _ _ _ _ st h => wpAny_pyIter_striter_ascii st h
theorem pi_str {tg l : Expr} {tl : TE} (hl : PE X l tl) : PI X tg l (iStr tl) := by
  intro pins s σ H R I h
  refine thn (hl pins s σ H _ I h) fun v s1 hx9 => ?_
  obtain ⟨x, H1, I1, r1, z, rfl, ha, q⟩ := hx9
  obtain ⟨tk, rfl⟩ := r1
  refine wpAny_pyIter_ascii ha ?_
  refine ⟨s1.heap.objs.size, [s1.heap.objs.size], _, _, H1, rfl, I1.kept (t' := s1.toks) fun b o e => Heap.get?_push_of_some _ e, turn_str _ z tk, ⟨_, Heap.get?_push_size _ rfl, rfl, rfl⟩, fun b hb => ?_, q⟩
  have e : b = s1.heap.objs.size := by simpa using hb
  subst e
  exact I1.fpOk (Nat.le_refl _) (I1.hok.fresh (Nat.le_refl _))
end
end L2
set_option Elab.async false
set_option linter.all false
set_option maxRecDepth 100000
namespace L2
open PySem PySem.Spec PyProof.Rows
theorem walks_next {prog : Program} {w : World} {A : Around} {I : Addr} {fp wr : List Addr} {n : Nat} {P : Nat → Value → Prop} {St : Nat → Heap → Prop} (W : Walks prog w A I fp wr (n + 1) P St) : Walks prog w A I fp wr n (fun i => P (i + 1)) (fun i => St (i + 1)) :=
  ⟨W.sub, fun i => W.frame (i + 1), fun i s Q E hi st hQ => W.item (i + 1) s Q E (Nat.succ_lt_succ hi) st hQ, fun s Q E st hQ => W.done s Q E st hQ, fun i => W.self (i + 1)⟩
section
variable {X : Cx}
def gStar (K : PySem.W.Frag) (t : TGs) : TG := fun v σ H Q => ∃ a x xs, v = .ref a ∧ SqL K H a (x :: xs) ∧ ∀ p, H p = none → t [x, .ref p] σ (upd H p (.lst xs)) Q
theorem pg_star {a b : Expr} {p1 pos : Pos} {k : Nat} {t : TGs} (hc : X.calm = true) (h : PGs X [a, b] t) (he : (assignEach [a, .Starred b p1] X.env) = [(false, assign a X.env), (true, assign b X.env)] := by rfl) (he2 : (assignEach [a, b] X.env) = [(false, assign a X.env), (false, assign b X.env)] := by rfl) :
    PG X (.Tuple [a, .Starred b p1] k pos) (gStar X.K t) := by
  intro pins s σ H v u Q I r hw
  obtain ⟨ad, x, xs, rfl, hq, hw⟩ := hw
  cases r
  obtain ⟨its, rv, pl, hz⟩ := I.list hq
  cases rv with
  | @cons _ u0 _ us r0 rv =>
  have hL : s.heap.IsList ad (u0 :: us).toArray := pl.isList
  have hlt : ad < s.heap.objs.size := by obtain ⟨o, ho, _⟩ := hL; exact Heap.lt_size ho
  have hne : ad ≠ s.heap.objs.size := Nat.ne_of_lt hlt
  have W := Walks.list (prog := X.prog) (w := X.w) (A := X.A) (I.ok.hd hc) s.heap.objs.size ad hne (u0 :: us).toArray
  have W1 := Walks.list (prog := X.prog) (w := X.w) (A := X.A.in1) (by have := I.ok.hd hc; simpa using this) s.heap.objs.size ad hne (u0 :: us).toArray
  rw [show (u0 :: us).toArray.size = us.length + 1 by simp] at W W1
  have W2 := walks_next W1
  rw [show assign (.Tuple [a, .Starred b p1] k pos) X.env (.ref ad) = (do standAt pos; unpack (.ref ad) (assignEach [a, .Starred b p1] X.env)) from rfl, he]
  refine wpAny_bind (wpAny_standAt ?_)
  unfold unpack
  refine wpAny_bind (wpAny_holding ?_)
  show wpAny _ _ (unpackItems (.ref ad) 2 (some 1)) _ _ s
  unfold unpackItems
  refine wpAny_bind ?_
  unfold notIterableAtAll
  refine wpAny_bind (wpAny_specialOf hL.typeIs PySem.F.slot_list_iter.lookup ?_)
  refine wpAny_pure ?_
  simp only [Bool.false_eq_true, if_false]
  refine wpAny_bind (wpAny_holding (wpAny_pyIter_list hL ?_))
  refine wpAny_bind (wpAny_holding ?_)
  show wpAny _ _ (pyNext (.ref s.heap.objs.size) >>= _) _ _ _
  have hst : (s.heap.push { cls := .type "list_iterator", data := .fields #[.ref ad, .int 0 0] }).IsListIter s.heap.objs.size ad 0 ∧ (s.heap.push { cls := .type "list_iterator", data := .fields #[.ref ad, .int 0 0] }).IsList ad (u0 :: us).toArray := ⟨⟨_, Heap.get?_push_size _ rfl, rfl, rfl⟩, hL.push _⟩
  refine wpAny_bind (W.item 0 _ _ _ (Nat.succ_pos _) hst fun v h1 tk1 hv st1 kp1 => ?_)
  have ev : v = u0 := by
    have : (u0 :: us).toArray[0]? = some v := hv
    simpa using this.symm
  subst ev
  refine wpAny_bind (wpAny_holding ?_)
  show wpAny _ _ (pure []) _ _ _
  refine wpAny_pure (wpAny_pure ?_)
  show wpAny _ _ (if ([v] : List Value).length < 1 then _ else _) _ _ _
  rw [if_neg (by simp)]
  refine wpAny_bind (wpAny_holding ?_)
  refine wpAny_collect_iter (A := X.A) (T := "list_iterator") (.inr (.inr (.inl rfl))) W2.toS (fun _ _ st => let ⟨⟨o, ho, hcl, _⟩, _⟩ := st; ⟨o, ho, hcl⟩) st1 ?_ (by simp) ?_ ?_
  · intro b hb
    rcases List.mem_cons.mp hb with rfl | hb
    · obtain ⟨⟨o, ho, _⟩, _⟩ := st1
      exact Heap.lt_size ho
    · rw [List.mem_singleton.mp hb]
      obtain ⟨_, o, ho, _⟩ := st1
      exact Heap.lt_size ho
  · intro s' acc hm ha
    have ea : acc.toList = us := by
      refine List.ext_getElem? fun j => ?_
      have hs : acc.toList.length = us.length := by rw [Array.length_toList]; exact ha.1
      by_cases hj : j < us.length
      · have hja : j < acc.size := by rw [ha.1]; exact hj
        have h2 := ha.2 j acc[j] (Array.getElem?_eq_getElem hja)
        rw [Array.getElem?_toList, Array.getElem?_eq_getElem hja]
        simpa using h2.symm
      · rw [List.getElem?_eq_none (by omega), List.getElem?_eq_none (by omega)]
    rw [ea, if_neg (by omega)]
    have hzu : us.length ≤ sizeLine := by have := rv.length; rw [List.length_cons] at hz; omega
    have nb : ∀ b o, s.heap.get? b = some o → b ∉ [s.heap.objs.size] := fun b o e z => Nat.lt_irrefl _ (by have := Heap.lt_size e; rw [List.mem_singleton.mp z] at this; exact this)
    have kp : ∀ b o, s.heap.get? b = some o → s'.heap.get? b = some o := fun b o e => hm.heap b o (nb b o e) (kp1 b o (nb b o e) (Heap.get?_push_of_some _ e))
    have es : s' = { s with heap := s'.heap, toks := s'.toks } := by
      have g1 := hm.gens
      have g2 := hm.drawn
      have g3 := hm.os
      cases s'
      simp only at g1 g2 g3
      subst g1 g2 g3
      rfl
    have I1 : Inv X pins σ H s' := by rw [es]; exact I.kept (t' := s'.toks) kp
    have et : us.take (us.length - (2 - 1 - 1)) = us := List.take_of_length_le (by omega)
    have ed : us.drop (us.length - (2 - 1 - 1)) = [] := List.drop_eq_nil_of_le (by omega)
    rw [et, ed]
    refine wpAny_bind (wpAny_newObj_type ?_ (by show us.toArray.size ≤ sizeLine; rw [List.size_toArray]; exact hzu))
    refine wpAny_pure ?_
    have I2 : Inv X pins σ (upd H s'.heap.objs.size (.lst xs)) { s' with heap := s'.heap.push { cls := .type "list", data := .seq us.toArray } } := I1.laid (t' := s'.toks) (fun b ob q => Heap.get?_push_of_some _ q) (Nat.le_refl _) ⟨by rw [List.length_cons] at hz; omega, us, 0, rv, Heap.get?_push_size _ rfl⟩
    have := h pins _ σ _ [x, .ref s'.heap.objs.size] [v, .ref s'.heap.objs.size] Q I2 (.cons r0 (.cons rfl .nil)) (hw _ (I1.hok.fresh (Nat.le_refl _)))
    rw [he2] at this
    exact this
  · have := rv.length
    rw [List.length_cons] at hz
    omega
end
end L2
set_option Elab.async false
set_option linter.all false
set_option maxRecDepth 100000
namespace L2
open PySem PySem.Spec PyProof.Rows
structure Fn (K : PySem.W.Frag) (mg : Str → Option Value) (x : Str) (st : Stmt) (ps : List Str) (f : Addr) (fd : FuncData) : Prop where
  fn : Fun K x x st f fd
  mgx : mg x = some (.ref f)
  kp : PySem.W.keepIn K (.ref f) = true
  bd : Binds K fd ps []
theorem pe_fn {X : Cx} {x : Str} {st : Stmt} {ps : List Str} {f : Addr} {fd : FuncData} {k : Nat} {sp : Sp} {p pos : Pos} {e : Expr} {es : List Expr} {t : TA} (G : Fn X.K X.mg x st ps f fd) (ok : FnOk X.prog X.w X.K X.mg X.base CX0 k f fd ps sp) (hr : Room k X.A) (hg : Gl X x) (ha : PA X (e :: es) t)
    (hdb : (x == ("__debug__" : Str)) = false := by decide) (he : starEach (e :: es) X.env = (false, eval e X.env) :: starEach es X.env := by rfl) (hpl : (backTo pos (starEach es X.env)).any (·.1) = false := by rfl) :
    PE X (.Call (.Name x p) (e :: es) [] pos) (tCall sp [] E0 t) := pe_call ok hr hg G.mgx G.kp G.bd .nil pass0 ha hdb he hpl
structure Bl (mg : Str → Option Value) : Prop where
  isinstance : mg "isinstance" = none
  int : mg "int" = none
  bool : mg "bool" = none
  tuple : mg "tuple" = none
  list : mg "list" = none
  len : mg "len" = none
  all : mg "all" = none
  zip : mg "zip" = none
  range : mg "range" = none
  sorted : mg "sorted" = none
  set : mg "set" = none
  sum : mg "sum" = none
  repr : mg "repr" = none
  str : mg "str" = none
  hands : ∃ t, mg "MOST_HANDS" = some (.int 6 t)
  works : ∃ t, mg "MOST_WORKS" = some (.int 12 t)
  fig : ∃ t, mg "FIGURES" = some (.str "0123456789" t)
  mfig : ∃ t, mg "MOST_FIGURES" = some (.int 6 t)
theorem b_isi : bootBuiltins "isinstance" = some (.builtin "isinstance") := by decide +kernel
theorem b_int : bootBuiltins "int" = some (.type "int") := by decide +kernel
theorem b_bool : bootBuiltins "bool" = some (.type "bool") := by decide +kernel
theorem b_tuple : bootBuiltins "tuple" = some (.type "tuple") := by decide +kernel
theorem b_list : bootBuiltins "list" = some (.type "list") := by decide +kernel
theorem b_len : bootBuiltins "len" = some (.builtin "len") := by decide +kernel
theorem b_all : bootBuiltins "all" = some (.builtin "all") := by decide +kernel
end L2

namespace Ab
open PySem L2
def top (i : Nat) : Stmt := PySem.Challenge.pw_ablehands_k50_books_and_fractions_writte.main.body.getD i (.Pass ⟨0, 0, 0, 0⟩)
abbrev sWhole : Stmt := top 7
abbrev sHands : Stmt := top 8
abbrev sWorkP : Stmt := top 9
abbrev sBookP : Stmt := top 10
abbrev sNeedB : Stmt := top 11
abbrev sNumber : Stmt := top 15
abbrev sShowB : Stmt := top 16
abbrev sReadB : Stmt := top 17
abbrev sShowF : Stmt := top 18
abbrev sWhirl : Stmt := top 20
abbrev sScoop : Stmt := top 21
abbrev sAble : Stmt := top 22
abbrev sEBook : Stmt := top 23
abbrev sText : Stmt := top 24
abbrev sLow : Stmt := top 25
abbrev sAllW : Stmt := top 26
abbrev sLaw : Stmt := top 27
def isWhole : PyData → Bool
  | .int _ => true
  | _ => false
def areHands : PyData → Bool
  | .int i => decide (1 ≤ i) && decide (i ≤ 6)
  | _ => false
def risesP (hands : Int) : Int → List PyData → Bool
  | _, [] => true
  | last, .int i :: r => decide (last < i) && decide (i < hands) && risesP hands i r
  | _, _ :: _ => false
def isWork (hands : Int) : PyData → Bool
  | .tuple ds => !ds.isEmpty && risesP hands (-1) ds
  | _ => false
def bookOf : PyData → PyData → Bool
  | .int h, .tuple ws => decide (1 ≤ h) && decide (h ≤ 6) && decide (ws.length ≤ 12) && ws.all (isWork h)
  | _, _ => false
def isBook : PyData → Bool
  | .tuple [dh, dw] => bookOf dh dw
  | _ => false
section
variable {P : Program} {w : World} {K : PySem.W.Frag} {mg : Str → Option Value} {base : Heap}
def spWhole (K : PySem.W.Frag) : Sp := fun vs H Q _ => ∃ x d, vs = [x] ∧ Den K H d x ∧ Q (.bl (isWhole d)) H
theorem scWhole : FnScope ["thing"] ["thing"] (defScope sWhole) := ⟨rfl, rfl, rfl, by decide +kernel, rfl, by decide +kernel, by decide +kernel⟩
theorem ok_whole {f : Addr} {fd : FuncData} (G : Fn K mg "is_whole" sWhole ["thing"] f fd) (B : Bl mg) : FnOk P w K mg base CX0 1 f fd ["thing"] (spWhole K) := by
  refine G.fn.ok scWhole (fun vs H Q E h => ?_) (fun cdv A outer s H vs Q E hr h => ?_)
  · obtain ⟨x, d, rfl, _⟩ := h
    rfl
  · obtain ⟨x, d, rfl, hd, k⟩ := h
    refine ⟨_, pss_one (ps_ret (pe_and (pe_callB call_isi_int rfl B.isinstance b_isi (pa_cons (pv 0) (pa_cons (pe_bltn (v := .ty "int") rfl B.int b_int rfl) pa_nil)))
      (pe_one (pe_not (pe_callB call_isi_bool rfl B.isinstance b_isi (pa_cons (pv 0) (pa_cons (pe_bltn (v := .ty "bool") rfl B.bool b_bool rfl) pa_nil))))))), ?_⟩
    refine ⟨_, rfl, x, kdOf d, rfl, hd.kd, _, rfl, ?_⟩
    refine ite2 (fun c => ?_) (fun c => ?_)
    · refine ⟨_, rfl, x, kdOf d, rfl, hd.kd, _, rfl, ?_⟩
      have e : (!decide (kdOf d = Kd.bl)) = isWhole d := by
        cases d <;> first | rfl | (exfalso; simp [kdOf] at c)
      rw [e]
      exact k
    · have e : false = isWhole d := by
        cases d <;> first | rfl | (exfalso; simp [kdOf] at c)
      rw [e]
      exact k
def spHands (K : PySem.W.Frag) : Sp := fun vs H Q _ => ∃ x d, vs = [x] ∧ Den K H d x ∧ Q (.bl (areHands d)) H
theorem scHands : FnScope ["thing"] ["thing"] (defScope sHands) := ⟨rfl, rfl, rfl, by decide +kernel, rfl, by decide +kernel, by decide +kernel⟩
theorem ok_hands {f fW : Addr} {fd fdW : FuncData} (G : Fn K mg "are_hands" sHands ["thing"] f fd) (B : Bl mg) (W : Fn K mg "is_whole" sWhole ["thing"] fW fdW) : FnOk P w K mg base CX0 2 f fd ["thing"] (spHands K) := by
  have GW : FnOk P w K mg base CX0 1 fW fdW ["thing"] (spWhole K) := ok_whole W B
  obtain ⟨t6, h6⟩ := B.hands
  refine G.fn.ok scHands (fun vs H Q E h => ?_) (fun cdv A outer s H vs Q E hr h => ?_)
  · obtain ⟨x, d, rfl, _⟩ := h
    rfl
  · obtain ⟨x, d, rfl, hd, k⟩ := h
    refine ⟨_, pss_one (ps_ret (pe_and (pe_fn W GW hr rfl (pa_cons (pv 0) pa_nil))
      (pe_one (pe_chain op_le op_le pe_int (pv 0) (pe_glob (v := .int 6) rfl h6 ⟨t6, rfl⟩))))), ?_⟩
    refine ⟨_, rfl, x, d, rfl, hd, _, rfl, ?_⟩
    refine ite2 (fun c => ?_) (fun c => ?_)
    · obtain ⟨i, rfl⟩ : ∃ i, d = .int i := by cases d <;> first | exact ⟨_, rfl⟩ | (exfalso; simp [isWhole] at c)
      obtain rfl := den_int.mp hd
      refine ⟨_, rfl, _, _, rfl, rfl, _, rfl, ?_⟩
      refine ite2 (fun c1 => ?_) (fun c1 => ?_)
      · refine ⟨_, _, rfl, rfl, ?_⟩
        have e : decide (i ≤ 6) = areHands (.int i) := by
          show _ = (decide (1 ≤ i) && decide (i ≤ 6))
          rw [c1, Bool.true_and]
        show Q (.bl (decide (i ≤ 6))) H
        rw [e]; exact k
      · have e : false = areHands (.int i) := by
          show _ = (decide (1 ≤ i) && decide (i ≤ 6))
          have c2 : decide (1 ≤ i) = false := by simpa using c1
          rw [c2, Bool.false_and]
        rw [e]; exact k
    · have e : false = areHands d := by cases d <;> first | rfl | (exfalso; simp [isWhole] at c)
      rw [e]; exact k
theorem risesP_cons_int (h l i : Int) (r : List PyData) : risesP h l (.int i :: r) = (decide (l < i) && decide (i < h) && risesP h i r) := by rw [risesP]
theorem risesP_cons_no (h l : Int) (d : PyData) (r : List PyData) (n : isWhole d = false) : risesP h l (d :: r) = false := by
  cases d <;> first | rfl | (simp [isWhole] at n)
def spWorkP (K : PySem.W.Frag) : Sp := fun vs H Q _ => ∃ n x d, vs = [.int n, x] ∧ Den K H d x ∧ Q (.bl (isWork n d)) H
theorem scWorkP : FnScope ["hands", "thing", "last", "hand"] ["hands", "thing"] (defScope sWorkP) := ⟨rfl, rfl, rfl, by decide +kernel, rfl, by decide +kernel, by decide +kernel⟩
theorem ok_workP {f fW : Addr} {fd fdW : FuncData} (G : Fn K mg "is_work" sWorkP ["hands", "thing"] f fd) (B : Bl mg) (W : Fn K mg "is_whole" sWhole ["thing"] fW fdW) : FnOk P w K mg base CX0 2 f fd ["hands", "thing"] (spWorkP K) := by
  have GW : FnOk P w K mg base CX0 1 fW fdW ["thing"] (spWhole K) := ok_whole W B
  refine G.fn.ok scWorkP (fun vs H Q E h => ?_) (fun cdv A outer s H vs Q E hr h => ?_)
  · obtain ⟨n, x, d, rfl, _⟩ := h
    rfl
  · obtain ⟨n, x, d, rfl, hd, k⟩ := h
    refine ⟨_, pss_cons (ps_if (PW.pt (pw_or (pt_not (pt_val (pe_callB call_isi_tuple rfl B.isinstance b_isi (pa_cons (pv 1) (pa_cons (pe_bltn (v := .ty "tuple") rfl B.tuple b_tuple rfl) pa_nil)))))
        (pw_or1 (pt_cmpR op_eq (pe_callB call_len_seq rfl B.len b_len (pa_cons (pv 1) pa_nil)) pe_int (nomark _))))) (pss_one (ps_ret pe_bl)) pss_nil)
      (pss_cons (ps_set (i := 2) scWorkP.nd rfl (Or.inl rfl) (pe_un un_neg pe_int))
      (pss_cons (ps_for PassesOwn.never rfl (pi_tup (pv 1)) (pg_name (i := 3) scWorkP.nd rfl (Or.inl rfl))
        (pss_cons (ps_if (PW.pt (pw_or (pt_not (pt_val (pe_fn W GW hr rfl (pa_cons (pv 3) pa_nil)))) (pw_or (pt_cmpR op_le (pv 3) (pv 2) (nomark _)) (pw_or1 (pt_cmpR op_ge (pv 3) (pv 0) (nomark _)))))) (pss_one (ps_ret pe_bl)) pss_nil)
        (pss_one (ps_set (i := 2) scWorkP.nd rfl (Or.inl rfl) (pv 3)))))
      (pss_one (ps_ret pe_bl)))), ?_⟩
    refine ⟨_, rfl, x, kdOf d, rfl, hd.kd, _, rfl, ?_⟩
    refine ite2 (fun c => ?_) (fun c => ?_)
    · -- not a tuple
      refine iteT ?_
      have e : false = isWork n d := by
        cases d <;> first | rfl | (exfalso; simp [kdOf] at c)
      rw [e]; exact k
    · obtain ⟨ds, rfl⟩ : ∃ ds, d = .tuple ds := by cases d <;> first | exact ⟨_, rfl⟩ | (exfalso; simp [kdOf] at c)
      obtain ⟨a, xs, rfl, ha, hds⟩ := den_tuple.mp hd
      have hl := denAll_length hds
      refine ⟨_, rfl, a, xs, rfl, .inr ha, rfl, _, rfl, ?_⟩
      refine ite2 (fun c2 => ?_) (fun c2 => ?_)
      · have e : false = isWork n (.tuple ds) := by
          have e1 : ds = [] := by
            have : (xs.length : Int) = 0 := by simpa using c2
            exact List.length_eq_zero_iff.mp (by omega)
          rw [e1]; rfl
        rw [e]; exact k
      · have hne : ds ≠ [] := by
          intro z
          apply c2
          rw [z] at hl
          simp [hl]
        have e0 : isWork n (.tuple ds) = risesP n (-1) ds := by
          show (!ds.isEmpty && risesP n (-1) ds) = _
          cases ds with
          | nil => exact absurd rfl hne
          | cons _ _ => rfl
        rw [e0] at k
        refine ⟨_, rfl, ?_⟩
        refine ⟨_, rfl, a, rfl, ⟨xs, ha⟩, for_tup (K := K) (a := a) (xs := xs) (fun i σ H2 => ∃ (last : Int) (v : Option V), σ = [some (.int n), some (.ref a), some (.int last), v] ∧ H2 = H ∧ risesP n (-1) ds = risesP n last (ds.drop i))
          ⟨-1, none, rfl, rfl, rfl⟩ (fun i σ H2 _ ⟨_, _, _, e, _⟩ => by rw [e]; exact ha) ?_ ?_⟩
        · rintro i y σ H2 hi ⟨last, v, rfl, rfl, hr2⟩
          obtain ⟨dy, hdy, hden⟩ := denAll_at hds hi
          have hdrop : ds.drop i = dy :: ds.drop (i + 1) := by
            obtain ⟨hlt, e⟩ := List.getElem?_eq_some_iff.mp hdy
            rw [List.drop_eq_getElem_cons hlt, e]
          rw [hdrop] at hr2
          refine ⟨_, rfl, y, dy, rfl, hden, _, rfl, ?_⟩
          refine ite2 (fun c3 => ?_) (fun c3 => ?_)
          · refine iteT ?_
            have e : false = risesP n (-1) ds := by rw [hr2, risesP_cons_no]; simpa using c3
            rw [e]; exact k
          · obtain ⟨j, rfl⟩ : ∃ j, dy = .int j := by cases dy <;> first | exact ⟨_, rfl⟩ | (exfalso; simp [isWhole] at c3)
            obtain rfl := den_int.mp hden
            rw [risesP_cons_int] at hr2
            refine ⟨_, rfl, _, rfl, _, _, rfl, rfl, _, rfl, ?_⟩
            refine ite2 (fun c4 => ?_) (fun c4 => ?_)
            · refine iteT ?_
              have c4' : j ≤ last := of_decide_eq_true c4
              have e : false = risesP n (-1) ds := by rw [hr2, decide_eq_false (by omega : ¬ last < j)]; rfl
              rw [e]; exact k
            · have c4' : ¬ j ≤ last := fun z => c4 (decide_eq_true z)
              refine ⟨_, rfl, _, rfl, _, _, rfl, rfl, _, rfl, ?_⟩
              refine ite2 (fun c5 => ?_) (fun c5 => ?_)
              · have c5' : n ≤ j := of_decide_eq_true c5
                have e : false = risesP n (-1) ds := by rw [hr2, decide_eq_false (by omega : ¬ j < n), Bool.and_false]; rfl
                rw [e]; exact k
              · have c5' : ¬ n ≤ j := fun z => c5 (decide_eq_true z)
                refine ⟨_, rfl, j, some (.int j), rfl, rfl, ?_⟩
                rw [hr2, decide_eq_true (by omega : last < j), decide_eq_true (by omega : j < n)]
                rfl
        · rintro σ H2 ⟨last, v, rfl, rfl, hr2⟩
          have e : true = risesP n (-1) ds := by
            rw [hr2, hl, List.drop_length]
            rfl
          show Q (.bl true) _
          rw [e]; exact k
end
end Ab
set_option Elab.async false
set_option linter.all false
set_option maxRecDepth 100000
namespace Ab
open PySem L2
theorem nameAll_go {i : Nat} {x : V} {σ : St} {H : Hp} {A B : St → Hp → Prop} (h : A (σ.set i (some x)) H) : gName i x σ H fun σ2 H2 => tAll σ2 H2 fun b H3 => if b = true then A σ2 H3 else B σ2 H3 := by
  show if true = true then A (σ.set i (some x)) H else B (σ.set i (some x)) H
  exact iteT h
section
variable {P : Program} {w : World} {K : PySem.W.Frag} {mg : Str → Option Value} {base : Heap}
def spBookP (K : PySem.W.Frag) : Sp := fun vs H Q _ => ∃ x d, vs = [x] ∧ Den K H d x ∧ ∀ H', Same H H' → Q (.bl (isBook d)) H'
theorem scBookP : FnScope ["thing", "hands", "works"] ["thing"] (defScope sBookP) := ⟨rfl, rfl, rfl, by decide +kernel, rfl, by decide +kernel, by decide +kernel⟩
theorem ok_bookP {f fW fH fK : Addr} {fd fdW fdH fdK : FuncData} (G : Fn K mg "is_book" sBookP ["thing"] f fd) (B : Bl mg) (W : Fn K mg "is_whole" sWhole ["thing"] fW fdW) (GH : Fn K mg "are_hands" sHands ["thing"] fH fdH) (GK : Fn K mg "is_work" sWorkP ["hands", "thing"] fK fdK) : FnOk P w K mg base CX0 3 f fd ["thing"] (spBookP K) := by
  have OH : FnOk P w K mg base CX0 2 fH fdH ["thing"] (spHands K) := ok_hands GH B W
  have OK : FnOk P w K mg base CX0 2 fK fdK ["hands", "thing"] (spWorkP K) := ok_workP GK B W
  obtain ⟨t12, h12⟩ := B.works
  refine G.fn.ok scBookP (fun vs H Q E h => ?_) (fun cdv A outer s H vs Q E hr h => ?_)
  · obtain ⟨x, d, rfl, _⟩ := h
    rfl
  · obtain ⟨x, d, rfl, hd, k⟩ := h
    refine ⟨_, pss_cons (ps_if (PW.pt (pw_or (pt_not (pt_val (pe_callB call_isi_tuple rfl B.isinstance b_isi (pa_cons (pv 0) (pa_cons (pe_bltn (v := .ty "tuple") rfl B.tuple b_tuple rfl) pa_nil)))))
        (pw_or1 (pt_cmpR op_ne (pe_callB call_len_seq rfl B.len b_len (pa_cons (pv 0) pa_nil)) pe_int (nomark _))))) (pss_one (ps_ret pe_bl)) pss_nil)
      (pss_cons (ps_asg (pv 0) (pg_tup rfl (pgs_cons (pg_name (i := 1) scBookP.nd rfl (Or.inr rfl)) (pgs_cons (pg_name (i := 2) scBookP.nd rfl (Or.inl rfl)) pgs_nil))))
      (pss_cons (ps_if (pt_not (pt_val (pe_fn GH OH hr rfl (pa_cons (pv 1) pa_nil)))) (pss_one (ps_ret pe_bl)) pss_nil)
      (pss_cons (ps_if (PW.pt (pw_or (pt_not (pt_val (pe_callB call_isi_tuple rfl B.isinstance b_isi (pa_cons (pv 2) (pa_cons (pe_bltn (v := .ty "tuple") rfl B.tuple b_tuple rfl) pa_nil)))))
        (pw_or1 (pt_cmpR op_gt (pe_callB call_len_seq rfl B.len b_len (pa_cons (pv 2) pa_nil)) (pe_glob (v := .int 12) rfl h12 ⟨t12, rfl⟩) (nomark _))))) (pss_one (ps_ret pe_bl)) pss_nil)
      (pss_one (ps_ret (pe_callB (call_all rfl) rfl B.all b_all (pa_cons
        (pe_comp (own := ["work"]) (fr := [1]) (frn := ["hands"]) (compOk_of (defScope sBookP) ["thing", "hands", "works"] rfl rfl (by decide +kernel)) rfl (pi_tup (pv 2))
          (fun _ _ _ _ => pg_name (i := 0) (show (["work", "hands"] : List Str).Nodup by decide +kernel) rfl (Or.inl rfl)) (fun _ _ _ _ => pf_nil) (fun _ _ _ _ => pe_fn GK OK hr rfl (pa_cons (pv 1) (pa_cons (pv 0) pa_nil)))) pa_nil))))))), ?_⟩
    refine ⟨_, rfl, x, kdOf d, rfl, hd.kd, _, rfl, ?_⟩
    refine ite2 (fun c => ?_) (fun c => ?_)
    · refine iteT ?_
      have e : false = isBook d := by
        cases d <;> first | rfl | (exfalso; simp [kdOf] at c)
      rw [e]; exact k H (Same.refl H)
    · obtain ⟨ds, rfl⟩ : ∃ ds, d = .tuple ds := by cases d <;> first | exact ⟨_, rfl⟩ | (exfalso; simp [kdOf] at c)
      obtain ⟨a, xs, rfl, ha, hds⟩ := den_tuple.mp hd
      have hl := denAll_length hds
      refine ⟨_, rfl, a, xs, rfl, .inr ha, rfl, _, rfl, ?_⟩
      refine ite2 (fun c2 => ?_) (fun c2 => ?_)
      · have e : false = isBook (.tuple ds) := by
          match ds, hl, c2 with
          | [], _, _ => rfl
          | [_], _, _ => rfl
          | [_, _], hl, c2 => exfalso; rw [hl] at c2; simp at c2
          | _ :: _ :: _ :: _, _, _ => rfl
        rw [e]; exact k H (Same.refl H)
      · obtain ⟨dh, dw, rfl⟩ : ∃ dh dw, ds = [dh, dw] := by
          match ds, hl, c2 with
          | [], hl, c2 => exfalso; rw [hl] at c2; simp at c2
          | [_], hl, c2 => exfalso; rw [hl] at c2; simp at c2
          | [p, q], _, _ => exact ⟨p, q, rfl⟩
          | p :: q :: r :: t, hl, c2 => exfalso; apply c2; rw [hl]; simp; omega
        obtain ⟨xh, r1, rfl, hh, h2⟩ := denAll_cons.mp hds
        obtain ⟨xw, r2, rfl, hw, h3⟩ := denAll_cons.mp h2
        obtain rfl := denAll_nil.mp h3
        -- hands, works = thing
        refine ⟨_, rfl, a, _, rfl, ha, rfl, _, _, rfl, _, _, rfl, rfl, ?_⟩
        -- are_hands(hands)
        refine ⟨_, rfl, xh, dh, rfl, hh, _, rfl, ?_⟩
        refine ite2 (fun c3 => ?_) (fun c3 => ?_)
        · have e : false = isBook (.tuple [dh, dw]) := by
            have c3' : areHands dh = false := by simpa using c3
            cases dh with
            | int n =>
              cases dw with
              | tuple ws =>
                have c4 : (decide (1 ≤ n) && decide (n ≤ 6)) = false := c3'
                show _ = (decide (1 ≤ n) && decide (n ≤ 6) && decide (ws.length ≤ 12) && ws.all (isWork n))
                rw [c4]; rfl
              | _ => rfl
            | _ => rfl
          rw [e]; exact k H (Same.refl H)
        · obtain ⟨n, rfl, hn⟩ : ∃ n, dh = .int n ∧ (decide (1 ≤ n) && decide (n ≤ 6)) = true := by
            cases dh <;> first | exact ⟨_, rfl, by simpa [areHands] using c3⟩ | (exfalso; simp [areHands] at c3)
          obtain rfl := den_int.mp hh
          refine ⟨_, rfl, xw, kdOf dw, rfl, hw.kd, _, rfl, ?_⟩
          refine ite2 (fun c5 => ?_) (fun c5 => ?_)
          · refine iteT ?_
            have e : false = isBook (.tuple [.int n, dw]) := by
              cases dw <;> first | rfl | (exfalso; simp [kdOf] at c5)
            rw [e]; exact k H (Same.refl H)
          · obtain ⟨ws, rfl⟩ : ∃ ws, dw = .tuple ws := by cases dw <;> first | exact ⟨_, rfl⟩ | (exfalso; simp [kdOf] at c5)
            obtain ⟨b, ys, rfl, hb, hws⟩ := den_tuple.mp hw
            have hlw := denAll_length hws
            have eB : isBook (.tuple [.int n, .tuple ws]) = (decide (ws.length ≤ 12) && ws.all (isWork n)) := by
              show (decide (1 ≤ n) && decide (n ≤ 6) && decide (ws.length ≤ 12) && ws.all (isWork n)) = _
              rw [hn, Bool.true_and]
            rw [eB] at k
            refine ⟨_, rfl, b, ys, rfl, .inr hb, _, _, rfl, rfl, _, rfl, ?_⟩
            refine ite2 (fun c6 => ?_) (fun c6 => ?_)
            · have c6' : (12 : Int) < ys.length := of_decide_eq_true c6
              have e : false = (decide (ws.length ≤ 12) && ws.all (isWork n)) := by rw [decide_eq_false (by omega : ¬ ws.length ≤ 12)]; rfl
              rw [e]; exact k H (Same.refl H)
            · have c6' : ¬ (12 : Int) < ys.length := fun z => c6 (decide_eq_true z)
              have e1 : decide (ws.length ≤ 12) = true := decide_eq_true (by omega)
              rw [e1, Bool.true_and] at k
              refine ⟨_, rfl, b, rfl, ⟨ys, hb⟩, comp_tup (K := K) (a := b) (xs := ys) (fun σ => ∃ v, σ = [v, some (.int n)]) (fun i zs H2 => H2 = H ∧ zs = ((ws.take i).map (isWork n)).map V.bl) ?_ ⟨none, rfl⟩ ⟨rfl, rfl⟩ ?_ ?_ ?_ ?_⟩
              · rw [sizeLine_eq]; omega
              · rintro i zs H2 ⟨_, rfl⟩
                rw [List.length_map, List.length_map, List.length_take]; omega
              · rintro i zs H2 ⟨rfl, _⟩
                exact hb
              · rintro i zs σ x H2 hx ⟨v, rfl⟩ ⟨rfl, rfl⟩ hz
                obtain ⟨dx, hdx, hden⟩ := denAll_at hws hx
                refine nameAll_go ?_
                refine ⟨_, rfl, _, rfl, n, x, dx, rfl, hden, hz, ⟨some x, rfl⟩, rfl, ?_⟩
                rw [List.take_succ, hdx]
                simp
              · rintro zs H2 ⟨rfl, rfl⟩ p hp
                refine ⟨p, _, rfl, SqL.of upd_same, ?_⟩
                have e2 : ((ws.take ys.length).map (isWork n)).all id = ws.all (isWork n) := by
                  rw [hlw, List.take_length, List.all_map]
                  rfl
                rw [e2]
                exact k _ (Same.new hp)
end
end Ab
set_option Elab.async false
set_option linter.all false
set_option maxRecDepth 100000
namespace Ab
open PySem L2
def workD (l : List Int) : PyData := .tuple (l.map .int)
def bookD (n : Int) (ws : List (List Int)) : PyData := .tuple [.int n, .tuple (ws.map workD)]
theorem den_book {K : PySem.W.Frag} {H : Hp} {n : Int} {ws : List (List Int)} {x : V} (h : Den K H (bookD n ws) x) : ∃ a b ys, x = .ref a ∧ SqT K H a [.int n, .ref b] ∧ SqT K H b ys ∧ DenAll K H (ws.map workD) ys := by
  obtain ⟨a, xs, rfl, ha, hds⟩ := den_tuple.mp h
  obtain ⟨xh, r1, rfl, hh, h2⟩ := denAll_cons.mp hds
  obtain ⟨xw, r2, rfl, hw, h3⟩ := denAll_cons.mp h2
  obtain rfl := denAll_nil.mp h3
  obtain rfl := den_int.mp hh
  obtain ⟨b, ys, rfl, hb, hys⟩ := den_tuple.mp hw
  exact ⟨a, b, ys, rfl, ha, hb, hys⟩
theorem book_parts {n : Int} {ws : List (List Int)} (h : isBook (bookD n ws) = true) : 1 ≤ n ∧ n ≤ 6 ∧ ws.length ≤ 12 ∧ ∀ l ∈ ws, isWork n (workD l) = true := by
  have h' : (decide (1 ≤ n) && decide (n ≤ 6) && decide ((ws.map workD).length ≤ 12) && (ws.map workD).all (isWork n)) = true := h
  simp only [Bool.and_eq_true, decide_eq_true_eq, List.length_map, List.all_eq_true] at h'
  exact ⟨h'.1.1.1, h'.1.1.2, h'.1.2, fun l hl => h'.2 _ (List.mem_map.mpr ⟨l, hl, rfl⟩)⟩
section
variable {X : Cx} {K : PySem.W.Frag}
end
section
variable {P : Program} {w : World} {K : PySem.W.Frag} {mg : Str → Option Value} {base : Heap}
structure Pr (K : PySem.W.Frag) (mg : Str → Option Value) (fW fH fK fB fNB : Addr) (dW dH dK dB dNB : FuncData) : Prop where
  W : Fn K mg "is_whole" sWhole ["thing"] fW dW
  H : Fn K mg "are_hands" sHands ["thing"] fH dH
  Kw : Fn K mg "is_work" sWorkP ["hands", "thing"] fK dK
  B : Fn K mg "is_book" sBookP ["thing"] fB dB
  NB : Fn K mg "need_book" sNeedB ["book"] fNB dNB
variable {fW fH fK fB fNB : Addr} {dW dH dK dB dNB : FuncData}

def spNeedB (K : PySem.W.Frag) : Sp := fun vs H Q _ => ∃ x d, vs = [x] ∧ Den K H d x ∧ isBook d = true ∧ ∀ H', Same H H' → Q .non H'
theorem scNeedB : FnScope ["book"] ["book"] (defScope sNeedB) := ⟨rfl, rfl, rfl, by decide +kernel, rfl, by decide +kernel, by decide +kernel⟩
theorem ok_needB (B : Bl mg) (R : Pr K mg fW fH fK fB fNB dW dH dK dB dNB) : FnOk P w K mg base CX0 4 fNB dNB ["book"] (spNeedB K) := by
  have OB : FnOk P w K mg base CX0 3 fB dB ["thing"] (spBookP K) := ok_bookP R.B B R.W R.H R.Kw
  refine R.NB.fn.ok scNeedB (fun vs H Q E h => ?_) (fun cdv A outer s H vs Q E hr h => ?_)
  · obtain ⟨x, d, rfl, _⟩ := h
    rfl
  · obtain ⟨x, d, rfl, hd, hb, k⟩ := h
    refine ⟨_, pss_one (ps_if (pt_not (pt_val (pe_fn R.B OB hr rfl (pa_cons (pv 0) pa_nil)))) pss_never pss_nil), ?_⟩
    refine ⟨_, rfl, x, d, rfl, hd, fun H' hs => ⟨_, rfl, ?_⟩⟩
    rw [hb]
    refine iteF ?_
    exact k H' hs

end
end Ab
set_option Elab.async false
set_option linter.all false
set_option maxRecDepth 100000
namespace L2
open PySem PySem.Spec PyProof.Rows
section
variable {X : Cx}
def CMulB (i j : Int) : Prop := i.natAbs < 2 ^ 4000 ∧ j.natAbs < 2 ^ 4000
theorem bits_le {i : Int} (h : i.natAbs < 2 ^ 4000) : Builtin.Int.intBits i ≤ 2 ^ 20 := by
  unfold Builtin.Int.intBits
  split
  · exact Nat.zero_le _
  · rename_i hz
    have hz' : i ≠ 0 := by simpa using hz
    have h3 : i.natAbs.log2 < 4000 := (Nat.log2_lt (by omega)).mpr h
    have : (2 : Nat) ^ 20 = 1048576 := by decide
    omega
theorem CMulB.ok {i j : Int} (h : CMulB i j) : IntMulOk i j := IntMulOk.of_bits (bits_le h.1) (bits_le h.2)
def CDivG (i j : Int) : Prop := 0 < j ∧ j.natAbs < 2 ^ 4000
theorem op_fdivG : OpR X (binaryOp .FloorDiv) (rI CDivG fun i j => .int (i / j)) := opI fun i j _ _ _ _ _ hc q => by
  have h1 : (0 : Int) < j := hc.1
  refine floordiv_int (by omega) (by rw [Int.fdiv_eq_ediv_of_nonneg i (by omega)]; exact q) (.inl (PyProof.noPylong_of_log2 ?_))
  have h3 : j.natAbs.log2 < 4000 := (Nat.log2_lt (by omega)).mpr hc.2
  omega
end
end L2
namespace Ab
open PySem L2
def But (t : Addr) (H H' : Hp) : Prop := ∀ b o, b ≠ t → H b = some o → H' b = some o
theorem But.refl (t : Addr) (H : Hp) : But t H H := fun _ _ _ h => h
theorem But.trans {t : Addr} {H H1 H2 : Hp} (a : But t H H1) (b : But t H1 H2) : But t H H2 := fun c o n h => b c o n (a c o n h)
theorem But.of {t : Addr} {H H' : Hp} (a : Same H H') : But t H H' := fun c o _ h => a c o h
theorem But.at {t : Addr} {H : Hp} {u : HO} : But t H (upd H t u) := fun c o n h => by rw [upd_ne n]; exact h
theorem But.free {t : Addr} {H H' : Hp} (e : But t H H') {l : Addr} (h : H' l = none) (n : l ≠ t) : H l = none := by
  cases q : H l with
  | none => rfl
  | some o => rw [e l o n q] at h; cases h
theorem But.rdL {t a : Addr} {H H' : Hp} {xs : List V} (e : But t H H') (n : a ≠ t) (h : Rd H a (.lst xs)) : Rd H' a (.lst xs) := by
  rcases h with h | ⟨o, h⟩
  · exact .inl (e a _ n h)
  · exact .inr ⟨o, e a _ n h⟩
section
variable {K : PySem.W.Frag} {t : Addr} {H H' : Hp} {ys : List V}
theorem But.seqT {a : Addr} {xs : List V} (e : But t H H') (ht : H t = some (.lst ys)) (h : SqT K H a xs) : SqT K H' a xs := by
  rcases h with (h | ⟨o, h⟩) | h
  · exact .inl (.inl (e a _ (fun z => by rw [z, ht] at h; cases h) h))
  · exact .inl (.inr ⟨o, e a _ (fun z => by rw [z, ht] at h; cases h) h⟩)
  · exact .inr h
theorem But.seqL {a : Addr} {xs : List V} (e : But t H H') (n : a ≠ t) (h : SqL K H a xs) : SqL K H' a xs := by
  rcases h with h | h
  · exact .inl (e.rdL n h)
  · exact .inr h
mutual
def noList : PyData → Bool
  | .dict _ => false
  | .list _ => false
  | .tuple ds => noLists ds
  | _ => true
def noLists : List PyData → Bool
  | [] => true
  | d :: ds => noList d && noLists ds
end
mutual
theorem But.den (e : But t H H') (ht : H t = some (.lst ys)) : ∀ (d : PyData) (v : V), noList d = true → Den K H d v → Den K H' d v
  | .none, v, _, h => by unfold Den at h ⊢; exact h
  | .bool b, v, _, h => by unfold Den at h ⊢; exact h
  | .int i, v, _, h => by unfold Den at h ⊢; exact h
  | .str x, v, _, h => by unfold Den at h ⊢; exact h
  | .list ds, v, n, h => by unfold noList at n; cases n
  | .tuple ds, v, n, h => by unfold noList at n; unfold Den at h ⊢; obtain ⟨a, xs, h1, h2, h3⟩ := h; exact ⟨a, xs, h1, e.seqT ht h2, But.denAll e ht ds xs n h3⟩
  | .dict kvs, v, n, h => by unfold noList at n; cases n
theorem But.denAll (e : But t H H') (ht : H t = some (.lst ys)) : ∀ (ds : List PyData) (xs : List V), noLists ds = true → DenAll K H ds xs → DenAll K H' ds xs
  | [], xs, _, h => by unfold DenAll at h ⊢; exact h
  | d :: ds, xs, n, h => by
    unfold noLists at n; rw [Bool.and_eq_true] at n
    unfold DenAll at h ⊢; obtain ⟨x, r, h1, h2, h3⟩ := h; exact ⟨x, r, h1, But.den e ht d x n.1 h2, But.denAll e ht ds r n.2 h3⟩
end
end
theorem noLists_map {α : Type} (f : α → PyData) (h : ∀ x, noList (f x) = true) : ∀ l : List α, noLists (l.map f) = true
  | [] => by unfold List.map noLists; rfl
  | x :: r => by rw [List.map_cons]; unfold noLists; rw [h x, noLists_map f h r]; rfl
theorem noList_int (i : Int) : noList (.int i) = true := by unfold noList; rfl
theorem noList_work (l : List Int) : noList (workD l) = true := by unfold workD noList; exact noLists_map _ noList_int l
def Jar (K : PySem.W.Frag) (H : Hp) (t a : Addr) (ns : List Int) (N : Nat) : Prop := (∃ p q : Int, 0 ≤ p ∧ p ≤ N ∧ H t = some (.lst [.ref a, .int p, .int q])) ∧ SqL K H a (ns.map V.int)
section
variable {K : PySem.W.Frag} {H H' : Hp} {t a : Addr} {ns : List Int} {N M : Nat}
theorem Jar.same (h : Jar K H t a ns N) (e : Same H H') : Jar K H' t a ns N := by
  obtain ⟨⟨p, q, h1, h0, h2⟩, h3⟩ := h
  exact ⟨⟨p, q, h1, h0, e t _ h2⟩, e.seqL h3⟩
theorem Jar.more (h : Jar K H t a ns N) (e : N ≤ M) : Jar K H t a ns M := by
  obtain ⟨⟨p, q, h1, h0, h2⟩, h3⟩ := h
  exact ⟨⟨p, q, h1, by omega, h2⟩, h3⟩
theorem Jar.den (h : Jar K H t a ns N) (e : But t H H') {d : PyData} {v : V} (n : noList d = true) (hd : Den K H d v) : Den K H' d v := by
  obtain ⟨⟨p, q, h1, h0, h2⟩, h3⟩ := h
  exact e.den h2 d v n hd
theorem Jar.denAll (h : Jar K H t a ns N) (e : But t H H') {d : List PyData} {v : List V} (n : noLists d = true) (hd : DenAll K H d v) : DenAll K H' d v := by
  obtain ⟨⟨p, q, h1, h0, h2⟩, h3⟩ := h
  exact e.denAll h2 d v n hd
theorem Jar.seqT (h : Jar K H t a ns N) (e : But t H H') {b : Addr} {xs : List V} (hd : SqT K H b xs) : SqT K H' b xs := by
  obtain ⟨⟨p, q, h1, h0, h2⟩, h3⟩ := h
  exact e.seqT h2 hd
theorem Jar.ne (h : Jar K H t a ns N) {b : Addr} (hb : H b = none) : b ≠ t := by
  obtain ⟨⟨p, q, h1, h0, h2⟩, h3⟩ := h
  intro z
  rw [z, h2] at hb
  cases hb
end
theorem noref_ints {ns : List Int} {xs : List V} {a : Addr} {r : List V} (h : ns.map V.int = .ref a :: r) : False := by
  cases ns with
  | nil => cases h
  | cons _ _ => rw [List.map_cons] at h; cases h
theorem tape_upd {K : PySem.W.Frag} {H : Hp} {t a : Addr} {ns : List Int} {p q : Int} {u : HO} (h2 : H t = some (.lst [.ref a, .int p, .int q])) (h : SqL K H a (ns.map V.int)) : SqL K (upd H t u) a (ns.map V.int) := by
  rcases h with (h | ⟨o, h⟩) | h
  · have n : a ≠ t := fun z => by
      rw [z, h2] at h
      injection h with h
      injection h with h
      exact noref_ints (xs := []) h.symm
    exact .inl (.inl (by rw [upd_ne n]; exact h))
  · have n : a ≠ t := fun z => by
      rw [z, h2] at h
      cases h
    exact .inl (.inr ⟨o, by rw [upd_ne n]; exact h⟩)
  · exact .inr h
section
variable {P : Program} {w : World} {K : PySem.W.Frag} {mg : Str → Option Value} {base : Heap}
theorem noDict_ints (ns : List Int) : noDict (.list (ns.map .int)) = true := by
  unfold noDict
  induction ns with
  | nil => unfold List.map noDicts; rfl
  | cons n r ih => rw [List.map_cons]; unfold noDicts; rw [ih]; unfold noDict; rfl
theorem canLay_map {α : Type} (f : α → PyData) (h : ∀ x, (f x).canLay0 = true) : ∀ l : List α, PyData.canLayAll0 (l.map f) = true
  | [] => by unfold List.map PyData.canLayAll0; rfl
  | x :: r => by rw [List.map_cons]; unfold PyData.canLayAll0; rw [h x, canLay_map f h r]; rfl
theorem depth_map {α : Type} {k : Nat} (f : α → PyData) (h : ∀ x, (f x).depth ≤ k) : ∀ l : List α, PyData.depthAll (l.map f) ≤ k
  | [] => by unfold List.map PyData.depthAll; exact Nat.zero_le _
  | x :: r => by rw [List.map_cons]; unfold PyData.depthAll; exact Nat.max_le.mpr ⟨h x, depth_map f h r⟩
theorem canLay_int (i : Int) : (PyData.int i).canLay0 = true := by unfold PyData.canLay0; rfl
theorem depth_int (i : Int) : (PyData.int i).depth ≤ 0 := by unfold PyData.depth; exact Nat.le_refl _
theorem canLay_tints (ns : List Int) : (PyData.tuple (ns.map .int)).canLay0 = true := by unfold PyData.canLay0; exact canLay_map _ canLay_int ns
theorem depth_tints (ns : List Int) : (PyData.tuple (ns.map .int)).depth ≤ 1 := by unfold PyData.depth; exact Nat.succ_le_succ (depth_map _ depth_int ns)
theorem shaped_of {d : PyData} (h1 : d.canLay0 = true) (h2 : d.depth ≤ 64) : SeqAt.shaped d = true := by
  unfold SeqAt.shaped
  rw [h1, decide_eq_true h2]
  rfl
theorem shaped_tints (ns : List Int) : SeqAt.shaped (.tuple (ns.map .int)) = true := shaped_of (canLay_tints ns) (Nat.le_trans (depth_tints ns) (by decide))
theorem noDict_tints (ns : List Int) : noDict (.tuple (ns.map .int)) = true := by
  have h := noDict_ints ns
  unfold noDict at h ⊢
  exact h
theorem _root_.L2.Room.u64 {k : Nat} {A : Around} (r : Room k A) : A.units + 64 < cLine := by have := r.un; omega
def spWhirl : Sp := fun vs H Q _ => ∃ c a : Int, vs = [.int c, .int a] ∧ 0 ≤ a ∧ a ≤ 1000000 ∧ ∀ r, Q (.int r) H
theorem scWhirl : FnScope ["cell", "at", "one", "two", "three"] ["cell", "at"] (defScope sWhirl) := ⟨rfl, rfl, rfl, by decide +kernel, rfl, by decide +kernel, by decide +kernel⟩
theorem ok_whirl {f : Addr} {fd : FuncData} (G : Fn K mg "_law_e_whirl" sWhirl ["cell", "at"] f fd) : FnOk P w K mg base CX0 1 f fd ["cell", "at"] spWhirl := by
  refine G.fn.ok scWhirl (fun vs H Q E h => ?_) (fun cdv A outer s H vs Q E hr h => ?_)
  · obtain ⟨c, a, rfl, _⟩ := h
    rfl
  · obtain ⟨c, a, rfl, a0, a1, k⟩ := h
    refine ⟨_, (pss_cons (ps_if (pt_cmpR op_ge (pv 0) (pe_op op_pow pe_int pe_int) (nomark _))
      (pss_one (ps_ret (pv 0)))
      pss_nil)
    (pss_cons (ps_set (i := 2) scWhirl.nd rfl (Or.inl rfl) (pe_op op_mod (pe_op op_add (pe_op op_add (pe_op op_mul (pe_op op_mod (pv 0) pe_int) pe_int) (pe_op op_mul (pv 1) pe_int)) pe_int) pe_int))
    (pss_cons (ps_set (i := 3) scWhirl.nd rfl (Or.inl rfl) (pe_op op_mod (pe_op op_add (pe_op op_add (pe_op op_add (pe_op op_mul (pv 2) (pv 2)) (pe_op op_mul (pe_op op_mul pe_int (pv 1)) (pv 1))) (pe_op op_mul pe_int (pv 2))) pe_int) pe_int))
    (pss_cons (ps_set (i := 4) scWhirl.nd rfl (Or.inl rfl) (pe_op op_mod (pe_op op_add (pe_op op_add (pe_op op_add (pe_op op_mul (pv 3) (pv 3)) (pe_op op_mul pe_int (pv 3))) (pv 2)) (pe_op op_mul pe_int (pv 1))) pe_int))
    (pss_one (ps_ret (pe_op op_add (pe_op op_mul (pv 3) pe_int) (pv 4)))))))), ?_⟩
    refine ⟨_, rfl, _, _, rfl, rfl, ⟨by decide, by decide, by decide⟩, _, _, rfl, rfl, _, rfl, ?_⟩
    refine ite2 (fun c1 => ?_) (fun c1 => ?_)
    · exact ⟨_, rfl, k _⟩
    · refine ⟨_, rfl, _, _, rfl, rfl, (show (0 : Int) < _ by decide), _, _, rfl, rfl, .inr ⟨by decide, by decide⟩, _, rfl, _, _, rfl, rfl, .inr ⟨by decide, by decide⟩, _, _, rfl, rfl, _, _, rfl, rfl, _, _, rfl, rfl, (show (0 : Int) < _ by decide), ?_⟩
      generalize hf : ((c % 2147483423 * 40013 + a * 15073 + 83) % 2147483399 : Int) = f1
      have b1 : 0 ≤ f1 ∧ f1 < 2147483399 := by rw [← hf]; exact ⟨Int.emod_nonneg _ (by decide), Int.emod_lt_of_pos _ (by decide)⟩
      refine ⟨_, rfl, _, rfl, _, _, rfl, rfl, .inl ⟨by omega, by omega⟩, _, rfl, _, _, rfl, rfl, .inl ⟨by decide, by decide⟩, _, rfl, _, _, rfl, rfl, .inr ⟨by omega, by omega⟩, _, _, rfl, rfl, _, rfl, _, _, rfl, rfl, .inl ⟨by decide, by decide⟩, _, _, rfl, rfl, _, _, rfl, rfl, _, _, rfl, rfl, (show (0 : Int) < _ by decide), ?_⟩
      generalize hg : ((f1 * f1 + 521 * a * a + 11 * f1 + 7) % 2147483353 : Int) = f2
      have b2 : 0 ≤ f2 ∧ f2 < 2147483353 := by rw [← hg]; exact ⟨Int.emod_nonneg _ (by decide), Int.emod_lt_of_pos _ (by decide)⟩
      refine ⟨_, rfl, _, rfl, _, _, rfl, rfl, .inl ⟨by omega, by omega⟩, _, rfl, _, _, rfl, rfl, .inl ⟨by decide, by decide⟩, _, _, rfl, rfl, _, rfl, _, _, rfl, rfl, _, rfl, _, _, rfl, rfl, .inl ⟨by decide, by decide⟩, _, _, rfl, rfl, _, _, rfl, rfl, (show (0 : Int) < _ by decide), ?_⟩
      exact ⟨_, rfl, _, _, rfl, rfl, .inr ⟨by decide, by decide⟩, _, rfl, _, _, rfl, rfl, k _⟩
def spScoop (K : PySem.W.Frag) : Sp := fun vs H Q _ => ∃ (t a : Addr) (ns : List Int) (N : Nat) (m : Int), vs = [.ref t, .int m] ∧ Jar K H t a ns N ∧ N ≤ 900000 ∧ 0 < m ∧ m.natAbs < 2 ^ 4000 ∧ ∀ r H', 0 ≤ r → r < m → But t H H' → Jar K H' t a ns (N + 1) → Q (.int r) H'
theorem scScoop : FnScope ["jar", "many", "at", "cell", "found"] ["jar", "many"] (defScope sScoop) := ⟨rfl, rfl, rfl, by decide +kernel, rfl, by decide +kernel, by decide +kernel⟩
theorem ok_scoop {f fS : Addr} {fd fdS : FuncData} (G : Fn K mg "_law_e_scoop" sScoop ["jar", "many"] f fd) (B : Bl mg) (GWh : Fn K mg "_law_e_whirl" sWhirl ["cell", "at"] fS fdS) : FnOk P w K mg base CX0 2 f fd ["jar", "many"] (spScoop K) := by
  have OWh : FnOk P w K mg base CX0 1 fS fdS ["cell", "at"] spWhirl := ok_whirl GWh
  refine G.fn.ok scScoop (fun vs H Q E h => ?_) (fun cdv A outer s H vs Q E hr h => ?_)
  · obtain ⟨t, a, ns, N, m, rfl, _⟩ := h
    rfl
  · obtain ⟨t, a, ns, N, m, rfl, ⟨⟨p, q, hp, hpN, ht⟩, hns⟩, hN, hm1, hm2, k⟩ := h
    have r1 : Room 1 _ := hr
    refine ⟨_, (pss_cons (ps_if (pt_cmpR op_lt (pe_ix ix_list (pv 0) pe_int (fun _ _ => rfl)) (pv 1) (nomark _))
      (pss_cons (ps_set (i := 2) scScoop.nd rfl (Or.inl rfl) (pe_ix ix_list (pv 0) pe_int (fun _ _ => rfl)))
    (pss_cons (ps_set (i := 3) scScoop.nd rfl (Or.inl rfl) (pe_op op_add (pe_op op_mul pe_int (pv 2)) pe_int))
    (pss_cons (ps_if (pt_cmpR op_lt (pv 2) (pe_callB call_len_seq rfl B.len b_len (pa_cons (pe_ix ix_list (pv 0) pe_int (fun _ _ => rfl)) pa_nil)) (nomark _))
      (pss_one (ps_set (i := 3) scScoop.nd rfl (Or.inl rfl) (pe_ix ix_list (pe_ix ix_list (pv 0) pe_int (fun _ _ => rfl)) (pv 2) (fun _ _ => rfl))))
      (pss_one (ps_if (pt_cmpR op_gt (pe_callB call_len_seq rfl B.len b_len (pa_cons (pe_ix ix_list (pv 0) pe_int (fun _ _ => rfl)) pa_nil)) pe_int (nomark _))
      (pss_one (ps_set (i := 3) scScoop.nd rfl (Or.inl rfl) (pe_op op_add (pe_op op_mod (pe_ix ix_list (pe_ix ix_list (pv 0) pe_int (fun _ _ => rfl)) (pe_op op_mod (pe_op op_add (pe_op op_mul pe_int (pv 2)) pe_int) (pe_callB call_len_seq rfl B.len b_len (pa_cons (pe_ix ix_list (pv 0) pe_int (fun _ _ => rfl)) pa_nil))) (fun _ _ => rfl)) pe_int) (pe_op op_mul (pv 2) pe_int))))
      pss_nil)))
    (pss_cons (ps_asg (pe_op op_add (pv 2) pe_int) (pg_sub (pv 0) pe_int set_list))
    (pss_one (ps_asg (pe_fn GWh OWh r1 rfl (pa_cons (pv 3) (pa_cons (pv 2) pa_nil))) (pg_sub (pv 0) pe_int set_list)))))))
      pss_nil)
    (pss_cons (ps_set (i := 4) scScoop.nd rfl (Or.inl rfl) (pe_op op_mod (pe_ix ix_list (pv 0) pe_int (fun _ _ => rfl)) (pv 1)))
    (pss_cons (ps_asg (pe_op op_fdivG (pe_ix ix_list (pv 0) pe_int (fun _ _ => rfl)) (pv 1)) (pg_sub (pv 0) pe_int set_list))
    (pss_one (ps_ret (pv 4)))))), ?_⟩
    have last : ∀ (p1 r : Int) (H' : Hp), 0 ≤ p1 → p1 ≤ N + 1 → But t H H' → H' t = some (.lst [.ref a, .int p1, .int r]) → SqL K H' a (ns.map V.int) → Q (.int (r % m)) (upd H' t (.lst [.ref a, .int p1, .int (r / m)])) := fun p1 r H' h0 h1 b' h2 h3 =>
      k _ _ (Int.emod_nonneg _ (by omega)) (Int.emod_lt_of_pos _ hm1) (b'.trans But.at) ⟨⟨p1, r / m, h0, by omega, upd_same⟩, tape_upd h2 h3⟩
    refine ⟨_, rfl, t, _, 2, .int q, rfl, rfl, SqL.of ht, rfl, _, rfl, _, _, rfl, rfl, _, rfl, ?_⟩
    refine ite2 (fun c1 => ?_) (fun c1 => ?_)
    · refine ⟨_, rfl, t, _, 1, .int p, rfl, rfl, SqL.of ht, rfl, ?_⟩
      refine ⟨_, rfl, _, _, rfl, rfl, .inl ⟨by decide, by decide⟩, _, _, rfl, rfl, ?_⟩
      refine ⟨_, rfl, _, rfl, t, _, 0, .ref a, rfl, rfl, SqL.of ht, rfl, a, _, rfl, .inl hns, _, _, rfl, rfl, _, rfl, ?_⟩
      refine ite2 (fun c2 => ?_) (fun c2 => ?_)
      · have c2' : p < ((ns.map V.int).length : Int) := of_decide_eq_true c2
        rw [List.length_map] at c2'
        have hlt : p.toNat < ns.length := by omega
        have hat : atI (ns.map V.int) p = some (.int (ns[p.toNat])) := by
          have h1 : (ns.map V.int)[p.toNat]? = some (.int (ns[p.toNat])) := by rw [List.getElem?_map, List.getElem?_eq_getElem hlt]; rfl
          have h2 := atI_nat h1
          rwa [Int.toNat_of_nonneg hp] at h2
        refine ⟨_, rfl, t, _, 0, .ref a, rfl, rfl, SqL.of ht, rfl, _, rfl, a, _, _, _, rfl, rfl, hns, hat, ?_⟩
        refine ⟨_, rfl, _, _, rfl, rfl, _, rfl, t, _, _, 1, rfl, rfl, ht, rfl, ?_⟩
        refine ⟨_, rfl, _, rfl, _, _, rfl, hp, by omega, fun r => ⟨_, rfl, t, _, _, 2, rfl, rfl, upd_same, rfl, ?_⟩⟩
        refine ⟨_, rfl, t, _, 2, .int r, rfl, rfl, SqL.of upd_same, rfl, _, rfl, _, _, rfl, rfl, hm1, ?_⟩
        refine ⟨_, rfl, t, _, 2, .int r, rfl, rfl, SqL.of upd_same, rfl, _, rfl, _, _, rfl, rfl, ⟨hm1, hm2⟩, _, rfl, t, _, _, 2, rfl, rfl, upd_same, rfl, ?_⟩
        exact ⟨_, rfl, last (p + 1) r _ (by omega) (by omega) (But.at.trans But.at) upd_same (tape_upd (p := p + 1) (q := q) upd_same (tape_upd ht hns))⟩
      · refine ⟨_, rfl, t, _, 0, .ref a, rfl, rfl, SqL.of ht, rfl, a, _, rfl, .inl hns, _, _, rfl, rfl, _, rfl, ?_⟩
        refine ite2 (fun c3 => ?_) (fun c3 => ?_)
        · have hpos : 0 < ns.length := by
            have := of_decide_eq_true c3
            rw [List.length_map] at this
            omega
          have hlt : ((7 * p + 3) % (ns.length : Int)).toNat < ns.length := by
            have := Int.emod_nonneg (7 * p + 3) (show (ns.length : Int) ≠ 0 by omega)
            have := Int.emod_lt_of_pos (7 * p + 3) (show (0 : Int) < ns.length by omega)
            omega
          have hat : atI (ns.map V.int) ((7 * p + 3) % ((ns.map V.int).length : Int)) = some (.int (ns[((7 * p + 3) % (ns.length : Int)).toNat])) := by
            have h1 : (ns.map V.int)[((7 * p + 3) % (ns.length : Int)).toNat]? = some (.int (ns[((7 * p + 3) % (ns.length : Int)).toNat])) := by rw [List.getElem?_map, List.getElem?_eq_getElem hlt]; rfl
            have h2 := atI_nat h1
            rw [List.length_map]
            rwa [Int.toNat_of_nonneg (Int.emod_nonneg _ (by omega))] at h2
          refine ⟨_, rfl, t, _, 0, .ref a, rfl, rfl, SqL.of ht, rfl, _, rfl, _, _, rfl, rfl, .inl ⟨by decide, by decide⟩, _, _, rfl, rfl, _, rfl, t, _, 0, .ref a, rfl, rfl, SqL.of ht, rfl, a, _, rfl, .inl hns, _, _, rfl, rfl, (show (0 : Int) < ((ns.map V.int).length : Int) by rw [List.length_map]; omega), a, _, _, _, rfl, rfl, hns, hat, _, _, rfl, rfl, (show (0 : Int) < _ by decide), _, rfl, _, _, rfl, rfl, .inr ⟨by decide, by decide⟩, _, _, rfl, rfl, ?_⟩
          refine ⟨_, rfl, _, _, rfl, rfl, _, rfl, t, _, _, 1, rfl, rfl, ht, rfl, ?_⟩
          refine ⟨_, rfl, _, rfl, _, _, rfl, hp, by omega, fun r => ⟨_, rfl, t, _, _, 2, rfl, rfl, upd_same, rfl, ?_⟩⟩
          refine ⟨_, rfl, t, _, 2, .int r, rfl, rfl, SqL.of upd_same, rfl, _, rfl, _, _, rfl, rfl, hm1, ?_⟩
          refine ⟨_, rfl, t, _, 2, .int r, rfl, rfl, SqL.of upd_same, rfl, _, rfl, _, _, rfl, rfl, ⟨hm1, hm2⟩, _, rfl, t, _, _, 2, rfl, rfl, upd_same, rfl, ?_⟩
          exact ⟨_, rfl, last (p + 1) r _ (by omega) (by omega) (But.at.trans But.at) upd_same (tape_upd (p := p + 1) (q := q) upd_same (tape_upd ht hns))⟩
        · show _
          refine ⟨_, rfl, _, _, rfl, rfl, _, rfl, t, _, _, 1, rfl, rfl, ht, rfl, ?_⟩
          refine ⟨_, rfl, _, rfl, _, _, rfl, hp, by omega, fun r => ⟨_, rfl, t, _, _, 2, rfl, rfl, upd_same, rfl, ?_⟩⟩
          refine ⟨_, rfl, t, _, 2, .int r, rfl, rfl, SqL.of upd_same, rfl, _, rfl, _, _, rfl, rfl, hm1, ?_⟩
          refine ⟨_, rfl, t, _, 2, .int r, rfl, rfl, SqL.of upd_same, rfl, _, rfl, _, _, rfl, rfl, ⟨hm1, hm2⟩, _, rfl, t, _, _, 2, rfl, rfl, upd_same, rfl, ?_⟩
          exact ⟨_, rfl, last (p + 1) r _ (by omega) (by omega) (But.at.trans But.at) upd_same (tape_upd (p := p + 1) (q := q) upd_same (tape_upd ht hns))⟩
    · show _
      refine ⟨_, rfl, t, _, 2, .int q, rfl, rfl, SqL.of ht, rfl, _, rfl, _, _, rfl, rfl, hm1, ?_⟩
      refine ⟨_, rfl, t, _, 2, .int q, rfl, rfl, SqL.of ht, rfl, _, rfl, _, _, rfl, rfl, ⟨hm1, hm2⟩, _, rfl, t, _, _, 2, rfl, rfl, ht, rfl, ?_⟩
      exact ⟨_, rfl, last p q _ hp (by omega) (But.refl _ _) ht hns⟩
end
end Ab
set_option Elab.async false
set_option linter.all false
set_option maxRecDepth 100000
namespace Ab
open PySem L2
theorem rises_of (n : Int) : ∀ (l : List Int) (last : Int), (∀ x ∈ l, last < x) → l.Pairwise (· < ·) → (∀ x ∈ l, x < n) → risesP n last (l.map .int) = true
  | [], _, _, _, _ => rfl
  | x :: r, last, h1, h2, h3 => by
    rw [List.map_cons, risesP_cons_int]
    have h2' := List.pairwise_cons.mp h2
    rw [decide_eq_true (h1 x (List.mem_cons_self ..)), decide_eq_true (h3 x (List.mem_cons_self ..)), rises_of n r x h2'.1 h2'.2 (fun y hy => h3 y (List.mem_cons_of_mem _ hy))]
    rfl
theorem work_of {n : Int} {l : List Int} (h0 : l ≠ []) (h1 : ∀ x ∈ l, 0 ≤ x ∧ x < n) (h2 : l.Pairwise (· < ·)) : isWork n (workD l) = true := by
  have e : isWork n (workD l) = (!(l.map PyData.int).isEmpty && risesP n (-1) (l.map .int)) := rfl
  rw [e, rises_of n l (-1) (fun x hx => by have := (h1 x hx).1; omega) h2 (fun x hx => (h1 x hx).2)]
  cases l with
  | nil => exact absurd rfl h0
  | cons _ _ => rfl
theorem rises_parts (n : Int) : ∀ (l : List Int) (last : Int), risesP n last (l.map .int) = true → l.Pairwise (· < ·) ∧ ∀ x ∈ l, last < x ∧ x < n
  | [], _, _ => ⟨.nil, fun _ h => by cases h⟩
  | x :: r, last, h => by
    rw [List.map_cons, risesP_cons_int, Bool.and_eq_true, Bool.and_eq_true] at h
    obtain ⟨⟨h1, h2⟩, h3⟩ := h
    have h1 := of_decide_eq_true h1
    have h2 := of_decide_eq_true h2
    obtain ⟨i1, i2⟩ := rises_parts n r x h3
    refine ⟨List.pairwise_cons.mpr ⟨fun y hy => (i2 y hy).1, i1⟩, fun y hy => ?_⟩
    rcases List.mem_cons.mp hy with rfl | hy
    · exact ⟨h1, h2⟩
    · exact ⟨by have := (i2 y hy).1; omega, (i2 y hy).2⟩
theorem work_parts {n : Int} {l : List Int} (h : isWork n (workD l) = true) : l ≠ [] ∧ (∀ x ∈ l, 0 ≤ x ∧ x < n) ∧ l.Pairwise (· < ·) := by
  have e : (!(l.map PyData.int).isEmpty && risesP n (-1) (l.map .int)) = true := h
  rw [Bool.and_eq_true] at e
  obtain ⟨h1, h2⟩ := rises_parts n l (-1) e.2
  refine ⟨fun z => by rw [z] at e; simp at e, fun x hx => ⟨by have := (h2 x hx).1; omega, (h2 x hx).2⟩, h1⟩
theorem short_from {n : Int} : ∀ (l : List Int) (lo : Int), lo ≤ n → (∀ x ∈ l, lo ≤ x ∧ x < n) → l.Pairwise (· < ·) → (l.length : Int) ≤ n - lo
  | [], lo, h, _, _ => by simp; omega
  | x :: r, lo, h, h1, h2 => by
    have h2' := List.pairwise_cons.mp h2
    have hx := h1 x (List.mem_cons_self ..)
    have := short_from r (x + 1) (by omega) (fun y hy => ⟨by have := h2'.1 y hy; omega, (h1 y (List.mem_cons_of_mem _ hy)).2⟩) h2'.2
    rw [List.length_cons]
    omega
theorem work_short {n : Int} {l : List Int} (hn : 0 ≤ n) (h1 : ∀ x ∈ l, 0 ≤ x ∧ x < n) (h2 : l.Pairwise (· < ·)) : (l.length : Int) ≤ n := by
  have := short_from l 0 hn h1 h2
  omega
theorem sz1 (x : V) : [x].length ≤ sizeLine := by rw [sizeLine_eq]; simp
theorem sz2 (x y : V) : [x, y].length ≤ sizeLine := by rw [sizeLine_eq]; simp
theorem size1 {n : Nat} (h : n ≤ 1000) : n ≤ sizeLine := by rw [sizeLine_eq]; omega
theorem book_of {n : Int} {ws : List (List Int)} (h1 : 1 ≤ n) (h2 : n ≤ 6) (h3 : ws.length ≤ 12) (h4 : ∀ l ∈ ws, isWork n (workD l) = true) : isBook (bookD n ws) = true := by
  show (decide (1 ≤ n) && decide (n ≤ 6) && decide ((ws.map workD).length ≤ 12) && (ws.map workD).all (isWork n)) = true
  rw [decide_eq_true h1, decide_eq_true h2, List.length_map, decide_eq_true h3, Bool.true_and, Bool.true_and, Bool.true_and, List.all_eq_true]
  intro d hd
  obtain ⟨l, hl, rfl⟩ := List.mem_map.mp hd
  exact h4 l hl
section
variable {P : Program} {w : World} {K : PySem.W.Frag} {mg : Str → Option Value} {base : Heap}
def spAble (K : PySem.W.Frag) : Sp := fun vs H Q _ => ∃ (t a : Addr) (ns : List Int) (N : Nat) (n : Int), vs = [.ref t, .int n] ∧ Jar K H t a ns N ∧ N ≤ 800000 ∧ 1 ≤ n ∧ n ≤ 6 ∧ ∀ l p H', isWork n (workD l) = true → But t H H' → Jar K H' t a ns (N + 8) → SqT K H' p (l.map V.int) → Q (.ref p) H'
theorem scAble : FnScope ["jar", "hands", "often", "some"] ["jar", "hands"] (defScope sAble) := ⟨rfl, rfl, rfl, by decide +kernel, rfl, by decide +kernel, by decide +kernel⟩
set_option maxHeartbeats 1000000 in
theorem ok_able {f fS : Addr} {fd fdS : FuncData} (G : Fn K mg "_law_e_able" sAble ["jar", "hands"] f fd) (B : Bl mg) (GSc : Fn K mg "_law_e_scoop" sScoop ["jar", "many"] fS fdS) (OSc : FnOk P w K mg base CX0 2 fS fdS ["jar", "many"] (spScoop K)) : FnOk P w K mg base CX0 3 f fd ["jar", "hands"] (spAble K) := by
  refine G.fn.ok scAble (fun vs H Q E h => ?_) (fun cdv A outer s H vs Q E hr h => ?_)
  · obtain ⟨t, a, ns, N, n, rfl, _⟩ := h
    rfl
  · obtain ⟨t, a, ns, N, n, rfl, hJ, hN, hn1, hn6, k⟩ := h
    have r2 : Room 2 _ := hr
    refine ⟨_, (pss_cons (ps_set (i := 2) scAble.nd rfl (Or.inr rfl) (pe_op op_add pe_int (pe_fn GSc OSc r2 rfl (pa_cons (pv 0) (pa_cons pe_int pa_nil)))))
    (pss_cons (ps_set (i := 3) scAble.nd rfl (Or.inl rfl) (pe_callTy call_tuple_of rfl B.tuple b_tuple (pa_cons (pe_comp (own := ["hand"]) (fr := [0, 2]) (frn := ["jar", "often"]) (compOk_of (defScope sAble) ["jar", "hands", "often", "some"] rfl rfl (by decide +kernel)) rfl (pi_range1 rfl B.range (pa_cons (pv 1) pa_nil))
        (fun _ _ _ _ => (pg_name (i := 0) (show (["hand", "jar", "often"] : List Str).Nodup by decide +kernel) rfl (Or.inl rfl))) (fun _ _ _ _ => pf_one (pt_cmpR op_eq (pe_fn GSc OSc r2 rfl (pa_cons (pv 1) (pa_cons (pv 2) pa_nil))) pe_int (nomark _)))
        (fun _ _ _ _ => (pv 0))) pa_nil)))
    (pss_cons (ps_if (pt_cmpR (op_eqD hr.u64) (pv 3) (pe_tup pa_nil) (nomark _))
      (pss_one (ps_set (i := 3) scAble.nd rfl (Or.inl rfl) (pe_tup (pa_cons (pe_fn GSc OSc r2 rfl (pa_cons (pv 0) (pa_cons (pv 1) pa_nil))) pa_nil))))
      pss_nil)
    (pss_one (ps_ret (pv 3)))))), ?_⟩
    refine ⟨_, rfl, t, a, ns, N, 3, rfl, hJ, by omega, by decide, by decide, fun r H1 h10 h11 b1 J1 => ⟨_, _, rfl, rfl, ?_⟩⟩
    refine ⟨_, rfl, n, rfl, by omega, by omega, comp_range (lo := 0) (n := n.toNat) (fun σ => ∃ v, σ = [v, some (.ref t), some (.int (2 + r))]) (fun i zs H2 => ∃ l : List Int, zs = l.map V.int ∧ l.Pairwise (· < ·) ∧ (∀ x ∈ l, 0 ≤ x ∧ x < i) ∧ But t H H2 ∧ Jar K H2 t a ns (N + 1 + i)) (size1 (by omega)) ⟨none, rfl⟩ ⟨[], rfl, .nil, fun _ h => (List.not_mem_nil h).elim, b1, J1⟩ ?_ ?_ ?_⟩
    · rintro i zs H2 ⟨l, rfl, hp, hb, _⟩
      rw [List.length_map]
      have := work_short (n := (i : Int)) (by omega) hb hp
      omega
    · rintro i zs σ H2 hi ⟨v, rfl⟩ ⟨l, rfl, hp, hb, b2, J2⟩ hz
      refine ⟨_, rfl, _, rfl, t, a, ns, N + 1 + i, 2 + r, rfl, J2, by omega, by omega, by omega, fun r3 H3 h30 h31 b3 J3 => ⟨rfl, _, rfl, ?_⟩⟩
      refine ite2 (fun c1 => ?_) (fun c1 => ?_)
      · refine ⟨_, rfl, hz, ⟨_, rfl⟩, l ++ [0 + (i : Int)], by rw [List.map_append]; rfl, List.pairwise_append.mpr ⟨hp, by simp, fun x hx y hy => ?_⟩, fun x hx => ?_, b2.trans b3, J3⟩
        · rw [List.mem_singleton.mp hy]
          have := hb x hx
          omega
        · rcases List.mem_append.mp hx with hx | hx
          · have := hb x hx
            omega
          · rw [List.mem_singleton.mp hx]
            omega
      · exact ⟨⟨_, rfl⟩, l, rfl, hp, fun x hx => by have := hb x hx; omega, b2.trans b3, J3⟩
    · rintro zs H2 ⟨l, rfl, hp, hb, b2, J2⟩ z hz
      refine ⟨z, _, rfl, .inl ⟨SqL.of upd_same, fun q hq => ?_⟩⟩
      have s3 := (Same.new (o := .lst (l.map V.int)) hz).trans (Same.new (o := .tup (l.map V.int)) hq)
      have e3 : upd (upd H2 z (.lst (l.map V.int))) q (.tup (l.map V.int)) q = some (.tup (l.map V.int)) := upd_same
      generalize upd (upd H2 z (.lst (l.map V.int))) q (.tup (l.map V.int)) = H3 at s3 e3 ⊢
      refine ⟨_, rfl, size1 (Nat.zero_le _), fun z2 hz2 => ?_⟩
      have s4 := Same.new (o := .tup []) hz2
      refine ⟨.tuple (l.map .int), .tuple (([] : List Int).map .int), den_tints.mpr ⟨q, rfl, s4.seqT (SqT.of e3)⟩, den_tints.mpr ⟨z2, rfl, SqT.of upd_same⟩, noDict_tints _, noDict_tints _, shaped_tints _, shaped_tints _, _, rfl, ?_⟩
      have J4 := (J2.same s3).same s4
      have b4 := b2.trans (But.of (s3.trans s4))
      have e4 := s4 _ _ e3
      generalize upd H3 z2 (.tup []) = H4 at s4 J4 b4 e4 ⊢
      refine ite2 (fun c1 => ?_) (fun c1 => ?_)
      · refine ⟨_, rfl, _, rfl, t, a, ns, _, n, rfl, J4, by omega, by omega, by omega, fun r5 H5 h50 h51 b5 J5 => ⟨sz1 _, fun p hp5 => ?_⟩⟩
        refine ⟨_, rfl, k [r5] p _ (work_of (by simp) (fun x hx => ?_) (by simp)) (b4.trans (b5.trans (But.of (Same.new hp5)))) ((J5.same (Same.new hp5)).more (by omega)) (SqT.of upd_same)⟩
        rw [List.mem_singleton.mp hx]
        exact ⟨h50, h51⟩
      · refine ⟨_, rfl, k l q _ (work_of (fun z => ?_) (fun x hx => by have := hb x hx; omega) hp) b4 (J4.more (by omega)) (SqT.of e4)⟩
        rw [z] at c1
        exact c1 (by decide +kernel)
def spEBook (K : PySem.W.Frag) : Sp := fun vs H Q _ => ∃ (t a : Addr) (ns : List Int) (N : Nat), vs = [.ref t, .int 12] ∧ Jar K H t a ns N ∧ N ≤ 700000 ∧ ∀ n ws p H', isBook (bookD n ws) = true → But t H H' → Jar K H' t a ns (N + 100) → Den K H' (bookD n ws) (.ref p) → Q (.ref p) H'
theorem scEBook : FnScope ["jar", "most", "hands"] ["jar", "most"] (defScope sEBook) := ⟨rfl, rfl, rfl, by decide +kernel, rfl, by decide +kernel, by decide +kernel⟩
set_option maxHeartbeats 1000000 in
theorem ok_ebook {f fS fA : Addr} {fd fdS dA : FuncData} (G : Fn K mg "_law_e_book" sEBook ["jar", "most"] f fd) (B : Bl mg) (GSc : Fn K mg "_law_e_scoop" sScoop ["jar", "many"] fS fdS) (OSc : FnOk P w K mg base CX0 2 fS fdS ["jar", "many"] (spScoop K)) (GAb : Fn K mg "_law_e_able" sAble ["jar", "hands"] fA dA) (OAb : FnOk P w K mg base CX0 3 fA dA ["jar", "hands"] (spAble K)) : FnOk P w K mg base CX0 4 f fd ["jar", "most"] (spEBook K) := by
  refine G.fn.ok scEBook (fun vs H Q E h => ?_) (fun cdv A outer s H vs Q E hr h => ?_)
  · obtain ⟨t, a, ns, N, rfl, _⟩ := h
    rfl
  · obtain ⟨t, a, ns, N, rfl, hJ, hN, k⟩ := h
    have r2 : Room 2 _ := hr.mono (by decide)
    have r3 : Room 3 _ := hr
    refine ⟨_, (pss_cons (ps_set (i := 2) scEBook.nd rfl (Or.inr rfl) (pe_op op_add pe_int (pe_fn GSc OSc r2 rfl (pa_cons (pv 0) (pa_cons pe_int pa_nil)))))
    (pss_one (ps_ret (pe_tup (pa_cons (pv 2) (pa_cons (pe_callTy call_tuple_of rfl B.tuple b_tuple (pa_cons (pe_comp (own := ["turn"]) (fr := [2, 0]) (frn := ["hands", "jar"]) (compOk_of (defScope sEBook) ["jar", "most", "hands"] rfl rfl (by decide +kernel)) rfl (pi_range1 rfl B.range (pa_cons (pe_fn GSc OSc r2 rfl (pa_cons (pv 0) (pa_cons (pe_op op_add (pv 1) pe_int) pa_nil))) pa_nil))
        (fun _ _ _ _ => (pg_name (i := 0) (show (["turn", "hands", "jar"] : List Str).Nodup by decide +kernel) rfl (Or.inl rfl))) (fun _ _ _ _ => pf_nil)
        (fun _ _ _ _ => (pe_fn GAb OAb r3 rfl (pa_cons (pv 2) (pa_cons (pv 1) pa_nil))))) pa_nil)) pa_nil)))))), ?_⟩
    refine ⟨_, rfl, t, a, ns, N, 6, rfl, hJ, by omega, by decide, by decide, fun r H1 h10 h11 b1 J1 => ⟨_, _, rfl, rfl, ?_⟩⟩
    refine ⟨_, rfl, _, rfl, _, rfl, _, _, rfl, rfl, t, a, ns, N + 1, 13, rfl, J1, by omega, by decide, by decide, fun m H2 h20 h21 b2 J2 => ?_⟩
    refine ⟨m, rfl, by omega, by omega, comp_range (lo := 0) (n := m.toNat) (fun σ => ∃ v, σ = [v, some (.int (1 + r)), some (.ref t)]) (fun i zs H3 => ∃ ws : List (List Int), ws.length = i ∧ (∀ l ∈ ws, isWork (1 + r) (workD l) = true) ∧ DenAll K H3 (ws.map workD) zs ∧ But t H H3 ∧ Jar K H3 t a ns (N + 2 + 8 * i)) (size1 (by omega)) ⟨none, rfl⟩ ⟨[], rfl, fun _ h => (List.not_mem_nil h).elim, denAll_nil.mpr rfl, b1.trans b2, J2⟩ ?_ ?_ ?_⟩
    · rintro i zs H3 ⟨ws, hl, _, hd, _⟩
      rw [denAll_length hd, List.length_map, hl]
      exact Nat.le_refl _
    · rintro i zs σ H3 hi ⟨v, rfl⟩ ⟨ws, hl, hw, hd, b3, J3⟩ hz
      refine nameAll_go ?_
      refine ⟨_, rfl, _, rfl, t, a, ns, _, 1 + r, rfl, J3, by omega, by omega, by omega, fun l p H4 hwk b4 J4 hp4 => ?_⟩
      refine ⟨hz, ⟨_, rfl⟩, ws ++ [l], by rw [List.length_append, hl]; rfl, fun l2 hl2 => ?_, ?_, b3.trans b4, J4.more (by omega)⟩
      · rcases List.mem_append.mp hl2 with h | h
        · exact hw l2 h
        · rw [List.mem_singleton.mp h]; exact hwk
      · rw [List.map_append]
        exact denAll_append (J3.denAll b4 (noLists_map _ noList_work ws) hd) (denAll_cons.mpr ⟨_, _, rfl, den_tints.mpr ⟨p, rfl, hp4⟩, denAll_nil.mpr rfl⟩)
    · rintro zs H3 ⟨ws, hl, hw, hd, b3, J3⟩ z hz
      refine ⟨z, _, rfl, .inl ⟨SqL.of upd_same, fun q hq => ⟨sz2 _ _, fun p hp => ?_⟩⟩⟩
      have sm := (Same.new (o := .lst zs) hz).trans ((Same.new (o := .tup zs) hq).trans (Same.new (o := .tup [.int (1 + r), .ref q]) hp))
      have eq : upd (upd (upd H3 z (.lst zs)) q (.tup zs)) p (.tup [.int (1 + r), .ref q]) q = some (.tup zs) := (Same.new hp) _ _ upd_same
      refine k (1 + r) ws p _ (book_of (by omega) (by omega) (by omega) hw) (b3.trans (But.of sm)) ((J3.same sm).more (by omega)) ?_
      exact den_tuple.mpr ⟨p, _, rfl, SqT.of upd_same, denAll_cons.mpr ⟨_, _, rfl, den_int.mpr rfl, denAll_cons.mpr ⟨_, _, rfl, den_tuple.mpr ⟨q, zs, rfl, SqT.of eq, sm.denAll _ _ hd⟩, denAll_nil.mpr rfl⟩⟩⟩
end
end Ab
set_option Elab.async false
set_option linter.all false
set_option maxRecDepth 100000
namespace Ab
open PySem L2
def jn (s : List Nat) : List (List Nat) → List Nat
  | [] => []
  | [p] => p
  | p :: q :: r => p ++ s ++ jn s (q :: r)
theorem app_list (x y : Str) : (x ++ y).cps.toList = x.cps.toList ++ y.cps.toList := by
  show (x.cps ++ y.cps).toList = _
  simp
theorem join_list (sep : Str) : ∀ ps : List Str, (sep.join ps).cps.toList = jn sep.cps.toList (ps.map (·.cps.toList))
  | [] => rfl
  | [p] => rfl
  | p :: q :: r => by
    have ih := join_list sep (q :: r)
    show (p ++ sep ++ sep.join (q :: r)).cps.toList = _
    rw [app_list, app_list, ih]
    rfl
theorem str_ext {x y : Str} (h : x.cps.toList = y.cps.toList) : x = y := by
  cases x with
  | mk a =>
    cases y with
    | mk b => exact congrArg Str.mk (Array.toList_inj.mp h)
theorem take_pre (p r : List Nat) (n : Nat) (h : n = p.length) : (p ++ r).take n = p := by
  subst h
  simp
theorem at_here {x sep : Str} {a : Nat} {p r : List Nat} (hs : 1 ≤ sep.length) (h : x.cps.toList.drop a = p ++ sep.cps.toList ++ r) : StrLaws.At x sep x.length (a + p.length) := by
  have hl : (x.cps.toList.drop a).length = p.length + sep.length + r.length := by rw [h, List.length_append, List.length_append, Array.length_toList]; rfl
  have hx : x.cps.toList.length = x.length := Array.length_toList
  rw [List.length_drop] at hl
  · refine ⟨by omega, ?_⟩
    rw [StrLaws.subAt_eq, ← List.drop_drop, h, List.append_assoc, List.drop_left, take_pre _ _ _ (by show sep.cps.size = _; exact Array.length_toList.symm)]
    exact beq_self_eq_true _
theorem at_char {x sep : Str} {k c : Nat} {s' : List Nat} (hs : sep.cps.toList = c :: s') (h : StrLaws.At x sep x.length k) : x.cps.toList[k]? = some c := by
  have h2 := h.2
  rw [StrLaws.subAt_eq, hs] at h2
  have h3 := eq_of_beq h2
  have h4 : ((x.cps.toList.drop k).take sep.length)[0]? = some c := by rw [h3]; rfl
  rw [List.getElem?_take] at h4
  split at h4
  · rw [List.getElem?_drop] at h4
    exact h4
  · cases h4
theorem parts_back {x sep : Str} {c : Nat} {s' : List Nat} (hs : sep.cps.toList = c :: s') : ∀ (ps : List Str) (a f : Nat) (cuts : List Nat), ps ≠ [] → (∀ p ∈ ps, c ∉ p.cps.toList) → x.cps.toList.drop a = jn sep.cps.toList (ps.map (·.cps.toList)) → a ≤ x.length →
    StrLaws.ChainG x sep x.length a cuts f → (∀ k, f ≤ k → ¬ StrLaws.At x sep x.length k) → StrLaws.partsFrom x sep.length a cuts = ps
  | [], _, _, _, h, _, _, _, _, _ => absurd rfl h
  | [p], a, f, cuts, _, hc, hx, ha, hch, hno => by
    have hx' : x.cps.toList.drop a = p.cps.toList := hx
    have no : ∀ k, a ≤ k → ¬ StrLaws.At x sep x.length k := fun k hk hat => by
      have h1 := at_char hs hat
      have h2 : (x.cps.toList.drop a)[k - a]? = some c := by rw [List.getElem?_drop, show a + (k - a) = k by omega]; exact h1
      rw [hx'] at h2
      exact hc p (List.mem_singleton_self _) (List.mem_of_getElem? h2)
    cases cuts with
    | nil =>
      show [Builtin.Str.strSub x a x.length] = [p]
      congr 1
      refine str_ext ?_
      rw [StrLaws.strSub_toList, hx']
      refine List.take_of_length_le ?_
      have : (x.cps.toList.drop a).length = x.length - a := by rw [List.length_drop, Array.length_toList]; rfl
      rw [hx'] at this
      omega
    | cons k cs => exact absurd hch.2.1 (no k hch.1)
  | p :: q :: r, a, f, cuts, _, hc, hx, ha, hch, hno => by
    have hx' : x.cps.toList.drop a = p.cps.toList ++ sep.cps.toList ++ jn sep.cps.toList ((q :: r).map (·.cps.toList)) := hx
    have here := at_here (sep := sep) (by have : sep.cps.toList.length = sep.length := Array.length_toList; rw [hs] at this; simp at this; omega) hx'
    have hpl : p.cps.toList.length = p.length := Array.length_toList
    have no : ∀ k, a ≤ k → k < a + p.length → ¬ StrLaws.At x sep x.length k := fun k hk hk2 hat => by
      have h1 := at_char hs hat
      have h2 : (x.cps.toList.drop a)[k - a]? = some c := by rw [List.getElem?_drop, show a + (k - a) = k by omega]; exact h1
      rw [hx', List.append_assoc, List.getElem?_append_left (by omega)] at h2
      exact hc p (List.mem_cons_self ..) (List.mem_of_getElem? h2)
    rw [hpl] at here
    cases cuts with
    | nil =>
      have e : f = a := hch
      exact absurd here (hno _ (by omega))
    | cons k cs =>
      obtain ⟨h1, h2, h3, h4⟩ := hch
      have ek : k = a + p.length := by
        rcases Nat.lt_trichotomy k (a + p.length) with h | h | h
        · exact absurd h2 (no k h1 h)
        · exact h
        · exact absurd here (h3 _ (by omega) h)
      subst ek
      have hlen : (x.cps.toList.drop a).length = x.length - a := by rw [List.length_drop, Array.length_toList]; rfl
      have hsl : sep.cps.toList.length = sep.length := Array.length_toList
      have ih := parts_back hs (q :: r) (a + p.length + sep.length) f cs (by simp) (fun p' hp' => hc p' (List.mem_cons_of_mem _ hp')) (by
        rw [show a + p.length + sep.length = a + (p.length + sep.length) by omega, ← List.drop_drop, hx']
        rw [show p.length + sep.length = (p.cps.toList ++ sep.cps.toList).length by rw [List.length_append, hpl, hsl]]
        exact List.drop_left) h2.1 h4 hno
      show Builtin.Str.strSub x a (a + p.length) :: StrLaws.partsFrom x sep.length (a + p.length + sep.length) cs = p :: q :: r
      rw [ih]
      congr 1
      refine str_ext ?_
      rw [StrLaws.strSub_toList, hx', List.append_assoc]
      exact take_pre _ _ _ (by omega)
theorem split_join {sep : Str} {c : Nat} {s' : List Nat} (hs : sep.cps.toList = c :: s') (hk : Builtin.Str.strKind sep = 1) {ps : List Str} (h0 : ps ≠ []) (hc : ∀ p ∈ ps, c ∉ p.cps.toList) : Txt.split (sep.join ps) sep = ps := by
  have hx : (sep.join ps).cps.toList = jn sep.cps.toList (ps.map (·.cps.toList)) := join_list sep ps
  generalize sep.join ps = x at hx
  have hsl : 1 ≤ sep.length := by have : sep.cps.toList.length = sep.length := Array.length_toList; rw [hs] at this; simp at this; omega
  obtain ⟨f, hch, hno⟩ := StrLaws.occ_tight x sep hsl
  have back := parts_back hs ps 0 f _ h0 hc (by rw [List.drop_zero]; exact hx) (Nat.zero_le _) hch hno
  have one : (Builtin.Str.occurrences x sep 0 x.length (x.length + 1)) = [] → ps = [x] := fun e => by
    rw [e] at back
    rw [← back]
    show [Builtin.Str.strSub x 0 x.length] = [x]
    rw [show Builtin.Str.strSub x 0 x.length = x from str_ext (by rw [StrLaws.strSub_toList, List.drop_zero]; exact List.take_of_length_le (by rw [Array.length_toList]; exact Nat.le_refl _))]
  have kx : ¬ Builtin.Str.strKind x < Builtin.Str.strKind sep := by
    rw [hk]
    unfold Builtin.Str.strKind
    split
    · omega
    · split <;> omega
  unfold Txt.split
  by_cases h1 : x.length < sep.length
  · rw [decide_eq_true h1, Bool.true_or, if_pos rfl]
    refine (one ?_).symm
    cases e : Builtin.Str.occurrences x sep 0 x.length (x.length + 1) with
    | nil => rfl
    | cons k cs =>
      have := (StrLaws.occ_spec x sep 0 x.length (x.length + 1) k (by rw [e]; exact List.mem_cons_self ..)).1
      omega
  · rw [decide_eq_false h1, Bool.false_or, decide_eq_false kx]
    rw [if_neg (by decide)]
    cases e : Builtin.Str.occurrences x sep 0 x.length (x.length + 1) with
    | nil => exact (one e).symm
    | cons k cs =>
      rw [if_neg (by simp), StrLaws.partsBetween_eq, ← e]
      exact back
end Ab
set_option Elab.async false
set_option linter.all false
set_option maxRecDepth 100000
namespace L2
open PySem PySem.Spec PyProof.Rows
theorem pe_bmK {X : Cx} {K : PySem.W.Frag} {o e : Expr} {es : List Expr} {to : TE} {t : TA} {name : Str} {apos cpos : Pos} {T id : String} {r : V → List V → Hp → VK → Prop} (hK : X.K = K) (pa : PlainAttrs T) (slot : Slot T name id) (hty : typeOf (.builtin id) = pure (.type "method_descriptor")) (hm : MtR X id r) (ho : PE X o to) (ha : PA X (e :: es) t)
    (hbase : attributeBase o name X.env (eval o X.env) = eval o X.env := by rfl)
    (hfew : ((backTo cpos (starEach (e :: es) X.env)).all (fun x => !x.1) && (backToKw cpos (keywordEach [] X.env)).all (fun x => x.1.isSome)
      && decide ((e :: es).length + ([] : List Keyword).length + (if ([] : List Keyword).isEmpty then 0 else 1) < 30)) = true := by rfl)
    (hline : (apos.endLine == cpos.line) = true := by rfl) (hs : starEach (e :: es) X.env = (false, eval e X.env) :: starEach es X.env := by rfl) (hplain : (backTo cpos (starEach es X.env)).any (·.1) = false := by rfl) :
    PE X (.Call (.Attribute o name apos) (e :: es) [] cpos) (tBM K T r to t) := by
  subst hK
  exact pe_bm pa slot hty hm ho ha hbase hfew hline hs hplain
theorem pi_tupK {X : Cx} {K : PySem.W.Frag} {tg l : Expr} {tl : TE} (hK : X.K = K) (hl : PE X l tl) : PI X tg l (iTup K tl) := by subst hK; exact pi_tup hl
theorem b_str : bootBuiltins "str" = some (.type "str") := by decide +kernel
section
variable {X : Cx}
theorem call_isi_strV : CallR X (.builtin "isinstance") (fun xs H Q => ∃ y : Str, xs = [.str y, .ty "str"] ∧ Q (.bl true) H) := by
  intro pins s σ H xs us Q I r h
  obtain ⟨y, rfl, q⟩ := h
  obtain ⟨u, t, rfl, rx, rt⟩ := vals2 r
  cases rt
  obtain ⟨t, rfl⟩ := rx
  exact IsiPair.str_str ⟨.bl true, H, I, rfl, q⟩
end
end L2
namespace Ab
open PySem L2
def numS (i : Int) : Str := Str.ofString (toString i)
def workT (l : List Int) : Str := (" " : Str).join (l.map numS)
def bookT (n : Int) (ws : List (List Int)) : Str := ("; " : Str).join ((("hands " : Str) ++ numS n) :: ws.map workT)
def fracT (a b : Int) : Str := if b = 1 then numS a else numS a ++ "/" ++ numS b
theorem numS_eq {i : Int} (h0 : 0 ≤ i) (h6 : i ≤ 6) : numS i = ⟨#[48 + i.toNat]⟩ := by
  have h : i = 0 ∨ i = 1 ∨ i = 2 ∨ i = 3 ∨ i = 4 ∨ i = 5 ∨ i = 6 := by omega
  rcases h with rfl | rfl | rfl | rfl | rfl | rfl | rfl <;> decide +kernel
theorem numS_len {i : Int} (h0 : 0 ≤ i) (h6 : i ≤ 6) : (numS i).length = 1 := by rw [numS_eq h0 h6]; rfl
theorem nums_fit {l : List Int} (h : ∀ i ∈ l, 0 ≤ i ∧ i ≤ 6) (hl : l.length ≤ 6) : JoinOk (" " : Str) (l.map numS) = true := by
  unfold JoinOk
  rw [StrLaws.joinFits (B := 1) (fun y hy => by obtain ⟨i, hi, rfl⟩ := List.mem_map.mp hy; rw [numS_len (h i hi).1 (h i hi).2]; exact Nat.le_refl _) (by rw [List.length_map]; show _ * 1 + _ * 1 ≤ _; omega)]
  rfl
theorem sum_le {α : Type} (f : α → Nat) (B : Nat) : ∀ l : List α, (∀ x ∈ l, f x ≤ B) → (l.map f).sum ≤ l.length * B
  | [], _ => by simp
  | x :: l, h => by
    have h1 := h x (List.mem_cons_self ..)
    have h2 := sum_le f B l fun y hy => h y (List.mem_cons_of_mem _ hy)
    rw [List.map_cons, List.sum_cons, List.length_cons, Nat.add_mul]
    omega
theorem workT_len {l : List Int} (h : ∀ i ∈ l, 0 ≤ i ∧ i ≤ 6) (hl : l.length ≤ 6) : (workT l).length ≤ 12 := by
  have h1 := StrLaws.join_length_le (" " : Str) (l.map numS)
  have h2 := sum_le (fun x : Str => x.length) 1 (l.map numS) fun y hy => by obtain ⟨i, hi, rfl⟩ := List.mem_map.mp hy; rw [numS_len (h i hi).1 (h i hi).2]; exact Nat.le_refl _
  rw [List.length_map] at h1 h2
  have h3 : (" " : Str).length = 1 := by decide +kernel
  rw [h3] at h1
  unfold workT
  omega
theorem work_six {n : Int} {l : List Int} (hn : n ≤ 6) (h : isWork n (workD l) = true) : (∀ i ∈ l, 0 ≤ i ∧ i ≤ 6) ∧ l.length ≤ 6 ∧ l ≠ [] := by
  obtain ⟨h1, h2, h3⟩ := work_parts h
  refine ⟨fun i hi => by have := h2 i hi; omega, ?_, h1⟩
  by_cases hz : 0 ≤ n
  · have := work_short hz h2 h3
    omega
  · cases l with
    | nil => exact absurd rfl h1
    | cons x r => have := h2 x (List.mem_cons_self ..); omega
def rowsT (n : Int) (ws : List (List Int)) : List Str := (("hands " : Str) ++ numS n) :: ws.map workT
theorem head_len {n : Int} (h1 : 1 ≤ n) (h6 : n ≤ 6) : (("hands " : Str) ++ numS n).length = 7 := by
  have h : n = 1 ∨ n = 2 ∨ n = 3 ∨ n = 4 ∨ n = 5 ∨ n = 6 := by omega
  rcases h with rfl | rfl | rfl | rfl | rfl | rfl <;> decide +kernel
theorem rowsT_len {n : Int} {ws : List (List Int)} (hb : isBook (bookD n ws) = true) : (∀ y ∈ rowsT n ws, y.length ≤ 12) ∧ (rowsT n ws).length ≤ 13 := by
  obtain ⟨hn1, hn6, hw, hws⟩ := book_parts hb
  refine ⟨fun y hy => ?_, ?_⟩
  · rcases List.mem_cons.mp hy with rfl | hy
    · rw [head_len hn1 hn6]; decide
    · obtain ⟨l, hl, rfl⟩ := List.mem_map.mp hy
      obtain ⟨a, b, _⟩ := work_six hn6 (hws l hl)
      exact workT_len a b
  · show (ws.map workT).length + 1 ≤ 13
    rw [List.length_map]; omega
theorem rowsT_fit {n : Int} {ws : List (List Int)} (hb : isBook (bookD n ws) = true) : JoinOk ("; " : Str) (rowsT n ws) = true := by
  obtain ⟨h1, h2⟩ := rowsT_len hb
  unfold JoinOk
  rw [StrLaws.joinFits (B := 12) h1 (by show _ * 12 + _ * 2 ≤ _; omega)]
  rfl
theorem bookT_len {n : Int} {ws : List (List Int)} (hb : isBook (bookD n ws) = true) : (bookT n ws).length ≤ 200 := by
  obtain ⟨h1, h2⟩ := rowsT_len hb
  have h3 := StrLaws.join_length_le ("; " : Str) (rowsT n ws)
  have h4 := sum_le (fun x : Str => x.length) 12 (rowsT n ws) h1
  have h5 : ("; " : Str).length = 2 := by decide +kernel
  rw [h5] at h3
  show (("; " : Str).join (rowsT n ws)).length ≤ 200
  omega
section
variable {P : Program} {w : World} {K : PySem.W.Frag} {mg : Str → Option Value} {base : Heap}
variable {fW fH fK fB fNB : Addr} {dW dH dK dB dNB : FuncData}
def spNumber : Sp := fun vs H Q _ => ∃ i : Int, vs = [.str (numS i)] ∧ 0 ≤ i ∧ i ≤ 6 ∧ ∀ H', Same H H' → Q (.bl true) H'
theorem scNumber : FnScope ["word"] ["word"] (defScope sNumber) := ⟨rfl, rfl, rfl, by decide +kernel, rfl, by decide +kernel, by decide +kernel⟩
theorem ok_number {f : Addr} {fd : FuncData} (G : Fn K mg "is_number" sNumber ["word"] f fd) (B : Bl mg) : FnOk P w K mg base CX0 1 f fd ["word"] spNumber := by
  obtain ⟨tF, hFG⟩ := B.fig
  obtain ⟨tM, hMF⟩ := B.mfig
  refine G.fn.ok scNumber (fun vs H Q E h => ?_) (fun cdv A outer s H vs Q E hr h => ?_)
  · obtain ⟨i, rfl, _⟩ := h
    rfl
  · obtain ⟨i, rfl, h0, h6, k⟩ := h
    rw [numS_eq h0 h6]
    refine ⟨_, (pss_cons (ps_if (PW.pt (pw_or (pt_not (pt_chain op_le op_le pe_int (pe_callB call_len_str rfl B.len b_len (pa_cons (pv 0) pa_nil)) (pe_glob (v := .int 6) rfl hMF ⟨_, rfl⟩))) (pw_or1 (PW.pt (pw_and (pt_cmpR op_eq (pe_ix ix_str (pv 0) pe_int (fun _ _ => rfl)) pe_str (nomark _)) (pw_and1 (pt_cmpR op_ne (pv 0) pe_str (nomark _))))))))
      (pss_one (ps_ret pe_bl))
      pss_nil)
    (pss_one (ps_ret (pe_callB (call_all rfl) rfl B.all b_all (pa_cons (pe_comp (own := ["sign"]) (fr := []) (frn := []) (compOk_of (defScope sNumber) ["word"] rfl rfl (by decide +kernel)) rfl (pi_str (pv 0))
        (fun _ _ _ _ => (pg_name (i := 0) (show (["sign"] : List Str).Nodup by decide +kernel) rfl (Or.inl rfl))) (fun _ _ _ _ => pf_nil)
        (fun _ _ _ _ => (pe_cmpR op_in_str (pv 0) (pe_glob (v := .str "0123456789") rfl hFG ⟨_, rfl⟩) (by with_unfolding_all rfl)))) pa_nil))))), ?_⟩
    have f0 : ∀ j : Fin 7, (!(Builtin.Str.occurrences ("0123456789" : Str) ⟨#[48 + j.val]⟩ 0 ("0123456789" : Str).length 1).isEmpty) = true := by decide +kernel
    have hfg : (!(Builtin.Str.occurrences ("0123456789" : Str) ⟨#[48 + i.toNat]⟩ 0 ("0123456789" : Str).length 1).isEmpty) = true := f0 ⟨i.toNat, by omega⟩
    have go : ∀ {D : Ends} {σ : St}, D.rt = Q → σ = [some (V.str ⟨#[48 + i.toNat]⟩)] → tRet (tCB (fun xs H_1 Q => ∃ p bs, xs = [V.ref p] ∧ SqL K H_1 p (List.map V.bl bs) ∧ Q (V.bl (bs.all id)) H_1) (tCons (tComp 1 [] (iStr (tVar 0)) (gName 0) tAll (tOp (fun x y H Q => ∃ i j, x = V.str i ∧ y = V.str j ∧ Q (V.bl !(Builtin.Str.occurrences j i 0 j.length 1).isEmpty) H) (tVar 0) (tC (V.str "0123456789")))) tNil)) D σ H := fun {D σ} hD hσ => by
      subst hσ
      refine ⟨_, rfl, _, rfl, by simp; omega, comp_it (J := Its ⟨#[48 + i.toNat]⟩) 1 (size1 (by decide)) (fun σ => ∃ v, σ = [v]) (fun j ys H' => H' = H ∧ ys = List.replicate j (.bl true)) ⟨none, rfl⟩ ⟨rfl, rfl⟩ (fun j ys H' h => by rw [h.2, List.length_replicate]; exact Nat.le_refl _) (fun _ _ _ => rfl) (fun j _ _ hj _ => hj) ?_ ?_⟩
      · rintro j ys σ x H1 H2 hj ⟨v, rfl⟩ ⟨rfl, rfl⟩ hy hz
        obtain ⟨rfl, c, hc, rfl⟩ := hy
        obtain rfl : j = 0 := by omega
        obtain rfl : 48 + i.toNat = c := by simpa using hc
        refine nameAll_go ?_
        refine ⟨_, rfl, _, _, rfl, rfl, ?_⟩
        rw [hfg]
        exact ⟨hz, ⟨_, rfl⟩, rfl, rfl⟩
      · rintro ys H1 ⟨rfl, rfl⟩ p hp
        refine ⟨p, [true], rfl, SqL.of upd_same, ?_⟩
        rw [hD]
        exact k _ (Same.new hp)
    refine ⟨_, rfl, _, rfl, size1 (show 1 ≤ 1000 by decide), _, _, rfl, rfl, true, rfl, iteT ⟨_, _, rfl, rfl, _, rfl, ?_⟩⟩
    refine iteF ?_
    refine ⟨_, rfl, _, 0, 48 + i.toNat, rfl, rfl, size1 (show 1 ≤ 1000 by decide), rfl, rfl, _, rfl, ?_⟩
    refine ite2 (fun c1 => ?_) (fun c1 => ?_)
    · refine ⟨_, rfl, rfl, _, rfl, ?_⟩
      have e : (⟨#[48 + i.toNat]⟩ : Str) = "0" := by have := of_decide_eq_true c1; injection this
      rw [show (!decide (V.str ⟨#[48 + i.toNat]⟩ = V.str "0")) = false by rw [e]; simp]
      refine iteF ?_
      exact go rfl rfl
    · exact go rfl rfl
def scOutSB : Scope := match (defBody sShowB).getD 2 (.Pass ⟨0, 0, 0, 0⟩) with
  | .Assign _ (.ListComp _ _ sc _) _ => sc
  | _ => defScope sShowB
theorem small_num {i : Int} (h0 : 0 ≤ i) (h6 : i ≤ 6) : i.natAbs.log2 < 1920 := by
  have h : i = 0 ∨ i = 1 ∨ i = 2 ∨ i = 3 ∨ i = 4 ∨ i = 5 ∨ i = 6 := by omega
  rcases h with rfl | rfl | rfl | rfl | rfl | rfl | rfl <;> decide +kernel
def spShowB (K : PySem.W.Frag) : Sp := fun vs H Q _ => ∃ (x : V) (n : Int) (ws : List (List Int)), vs = [x] ∧ Den K H (bookD n ws) x ∧ isBook (bookD n ws) = true ∧ ∀ H', Same H H' → Q (.str (bookT n ws)) H'
theorem scShowB : FnScope ["book", "hands", "works", "rows"] ["book"] (defScope sShowB) := ⟨rfl, rfl, rfl, by decide +kernel, rfl, by decide +kernel, by decide +kernel⟩
set_option maxHeartbeats 1000000 in
theorem ok_showB {f : Addr} {fd : FuncData} (G : Fn K mg "show_book" sShowB ["book"] f fd) (B : Bl mg) (R : Pr K mg fW fH fK fB fNB dW dH dK dB dNB) : FnOk P w K mg base CX0 5 f fd ["book"] (spShowB K) := by
  have ONB : FnOk P w K mg base CX0 4 fNB dNB ["book"] (spNeedB K) := ok_needB B R
  refine G.fn.ok scShowB (fun vs H Q E h => ?_) (fun cdv A outer s H vs Q E hr h => ?_)
  · obtain ⟨x, n, ws, rfl, _⟩ := h
    rfl
  · obtain ⟨x, n, ws, rfl, hx, hb, k⟩ := h
    have r4 : Room 4 _ := hr
    refine ⟨_, (pss_cons (ps_expr (pe_fn R.NB ONB r4 rfl (pa_cons (pv 0) pa_nil)))
    (pss_cons (ps_asg (pv 0) (pg_tup rfl (pgs_cons (pg_name (i := 1) scShowB.nd rfl (Or.inl rfl)) (pgs_cons (pg_name (i := 2) scShowB.nd rfl (Or.inl rfl)) pgs_nil))))
    (pss_cons (ps_setcomp (i := 3) (own := ["able"]) (fr := []) (frn := []) (compOk_of (defScope sShowB) ["book", "hands", "works", "rows"] rfl rfl (by decide +kernel)) rfl scShowB.nd rfl rfl rfl (pi_tup (pv 2))
        (fun _ _ _ _ => (pg_name (i := 0) (show (["able"] : List Str).Nodup by decide +kernel) rfl (Or.inl rfl))) (fun _ _ _ _ => pf_nil)
        (fun _ _ _ _ => (pe_bmK (K := K) rfl PySem.F.plainAttrs_str PySem.F.slot_str_join PySem.F.type_str_join (mt_join (K := K) rfl) pe_str (pa_cons (pe_comp (own := ["hand"]) (fr := []) (frn := []) (compOk_of (relS scOutSB (defScope sShowB)) ["able"] rfl rfl (by decide +kernel)) rfl (pi_tupK (K := K) rfl (pv 0))
        (fun _ _ _ _ => (pg_name (i := 0) (show (["hand"] : List Str).Nodup by decide +kernel) rfl (Or.inl rfl))) (fun _ _ _ _ => pf_nil)
        (fun _ _ _ _ => (pe_callTy call_str_int rfl B.str b_str (pa_cons (pv 0) pa_nil)))) pa_nil))))
    (pss_one (ps_ret (pe_bmK (K := K) rfl PySem.F.plainAttrs_str PySem.F.slot_str_join PySem.F.type_str_join (mt_join (K := K) rfl) pe_str (pa_cons (pe_op op_cat (pe_lst (pa_cons (pe_js2 pe_str (pe_fmt (pv 1))) pa_nil)) (pv 3)) pa_nil))))))), ?_⟩
    obtain ⟨hn1, hn6, hw12, hws⟩ := book_parts hb
    refine ⟨_, rfl, x, _, rfl, hx, hb, fun H1 s1 => ?_⟩
    obtain ⟨ba, bb, ys, rfl, ha, hb2, hys⟩ := den_book (s1.den _ _ hx)
    have hlw := denAll_length hys
    rw [List.length_map] at hlw
    refine ⟨_, rfl, ba, _, rfl, ha, rfl, _, _, rfl, _, _, rfl, rfl, ?_⟩
    refine ⟨_, rfl, bb, rfl, ⟨_, hb2⟩, comp_fnT (K := K) (a := bb) (xs := ys) (vs := (ws.map workT).map V.str) (fun σ => ∃ v, σ = [v]) (by omega) (by rw [List.length_map, List.length_map, hlw]) hb2 ⟨none, rfl⟩ ?_ ?_⟩
    · rintro j xv v σ H2 hxv hv ⟨v0, rfl⟩ s2 Q' hQ'
      obtain ⟨dv, hdv, denv⟩ := denAll_at hys hxv
      rw [List.getElem?_map] at hdv hv
      rw [List.getElem?_map] at hv
      cases q : ws[j]? with
      | none => rw [q] at hdv; cases hdv
      | some l =>
        rw [q] at hdv hv
        obtain rfl : workD l = dv := Option.some.inj hdv
        obtain rfl : V.str (workT l) = v := Option.some.inj hv
        obtain ⟨pw, rfl, hpw⟩ := den_tints.mp denv
        obtain ⟨l1, l2, l3⟩ := work_six hn6 (hws l (List.mem_of_getElem? q))
        refine ⟨rfl, _, rfl, pw, rfl, ⟨_, s2.seqT hpw⟩, comp_fnT (K := K) (a := pw) (xs := l.map V.int) (vs := (l.map numS).map V.str) (fun σ => ∃ v, σ = [v]) (by rw [List.length_map]; omega) (by rw [List.length_map, List.length_map, List.length_map]) (s2.seqT hpw) ⟨none, rfl⟩ ?_ ?_⟩
        · rintro m xv v σ H3 hxv hv ⟨v0, rfl⟩ s3 Q2 hQ2
          rw [List.getElem?_map] at hxv hv
          rw [List.getElem?_map] at hv
          cases q2 : l[m]? with
          | none => rw [q2] at hxv; cases hxv
          | some i =>
            rw [q2] at hxv hv
            obtain rfl : V.int i = xv := Option.some.inj hxv
            obtain rfl : V.str (numS i) = v := Option.some.inj hv
            have hi := l1 i (List.mem_of_getElem? q2)
            exact ⟨_, rfl, i, rfl, small_num hi.1 hi.2, hQ2 _ _ ⟨_, rfl⟩ (Same.refl _)⟩
        · rintro H3 s3 z hz
          exact ⟨_, z, _, rfl, rfl, SqL.of upd_same, nums_fit l1 l2, hQ' _ _ ⟨_, rfl⟩ (s3.trans (Same.new hz))⟩
    · rintro H2 s2 z hz
      have s3 := s2.trans (Same.new (o := .lst ((ws.map workT).map V.str)) hz)
      have e3 : upd H2 z (.lst ((ws.map workT).map V.str)) z = some (.lst ((ws.map workT).map V.str)) := upd_same
      generalize upd H2 z (.lst ((ws.map workT).map V.str)) = H3 at s3 e3 ⊢
      refine ⟨rfl, "hands ", rfl, size1 (by decide +kernel), _, rfl, n, rfl, small_num (by omega) hn6, numS n, rfl, size1 (by rw [head_len hn1 hn6]; decide), sz1 _, fun p1 hp1 => ?_⟩
      refine ⟨_, rfl, p1, z, _, _, rfl, rfl, upd_same, (Same.new hp1) _ _ e3, size1 (by rw [List.length_map, List.length_map]; show 1 + _ ≤ _; omega), fun p2 hp2 => ?_⟩
      exact ⟨_, p2, rowsT n ws, rfl, rfl, SqL.of upd_same, rowsT_fit hb, k _ (s1.trans (s3.trans ((Same.new hp1).trans (Same.new hp2))))⟩
theorem bookT_add (n : Int) (ws : List (List Int)) : ∀ i, i ≤ ws.length → bookT n (ws.take i) = (ws.take i).foldl (fun a l => a ++ "; " ++ workT l) (("hands " : Str) ++ numS n) := by
  intro i _
  show ("; " : Str).join (rowsT n (ws.take i)) = _
  rw [← StrLaws.glued_eq_join]
  generalize ws.take i = us
  refine str_ext ?_
  show (List.foldl (fun acc (p : Str) => acc ++ ("; " : Str).cps ++ p.cps) (("hands " : Str) ++ numS n).cps (us.map workT)).toList = _
  generalize (("hands " : Str) ++ numS n) = h
  induction us generalizing h with
  | nil => rfl
  | cons l r ih =>
    rw [List.map_cons, List.foldl_cons, List.foldl_cons]
    exact ih (h ++ "; " ++ workT l)
def spText (K : PySem.W.Frag) : Sp := fun vs H Q _ => ∃ (x : V) (n : Int) (ws : List (List Int)), vs = [x] ∧ Den K H (bookD n ws) x ∧ isBook (bookD n ws) = true ∧ ∀ H', Same H H' → Q (.str (bookT n ws)) H'
theorem scText : FnScope ["book", "found", "work"] ["book"] (defScope sText) := ⟨rfl, rfl, rfl, by decide +kernel, rfl, by decide +kernel, by decide +kernel⟩
set_option maxHeartbeats 1000000 in
theorem ok_text {f : Addr} {fd : FuncData} (G : Fn K mg "_law_e_text" sText ["book"] f fd) (B : Bl mg) : FnOk P w K mg base CX0 1 f fd ["book"] (spText K) := by
  refine G.fn.ok scText (fun vs H Q E h => ?_) (fun cdv A outer s H vs Q E hr h => ?_)
  · obtain ⟨x, n, ws, rfl, _⟩ := h
    rfl
  · obtain ⟨x, n, ws, rfl, hx, hb, k⟩ := h
    refine ⟨_, (pss_cons (ps_set (i := 1) scText.nd rfl (Or.inl rfl) (pe_op op_add_str pe_str (pe_callTy call_str_int rfl B.str b_str (pa_cons (pe_ix ix_tup (pv 0) pe_int (fun _ _ => rfl)) pa_nil))))
    (pss_cons (ps_for PassesOwn.never rfl (pi_tup (pe_ix ix_tup (pv 0) pe_int (fun _ _ => rfl))) (pg_name (i := 2) scText.nd rfl (Or.inl rfl))
      (pss_one (ps_set (i := 1) scText.nd rfl (Or.inl rfl) (pe_op op_add_str (pe_op op_add_str (pv 1) pe_str) (pe_bmK (K := K) rfl PySem.F.plainAttrs_str PySem.F.slot_str_join PySem.F.type_str_join (mt_join (K := K) rfl) pe_str (pa_cons (pe_comp (own := ["hand"]) (fr := []) (frn := []) (compOk_of (defScope sText) ["book", "found", "work"] rfl rfl (by decide +kernel)) rfl (pi_tup (pv 2))
        (fun _ _ _ _ => (pg_name (i := 0) (show (["hand"] : List Str).Nodup by decide +kernel) rfl (Or.inl rfl))) (fun _ _ _ _ => pf_nil)
        (fun _ _ _ _ => (pe_callTy call_str_int rfl B.str b_str (pa_cons (pv 0) pa_nil)))) pa_nil))))))
    (pss_one (ps_ret (pv 1))))), ?_⟩
    obtain ⟨hn1, hn6, hw12, hws⟩ := book_parts hb
    obtain ⟨ba, bb, ys, rfl, ha, hb2, hys⟩ := den_book hx
    have hlw := denAll_length hys
    rw [List.length_map] at hlw
    have lens : ∀ i, i ≤ ws.length → (bookT n (ws.take i)).length ≤ 200 := fun i hi => bookT_len (book_of hn1 hn6 (by rw [List.length_take]; omega) fun l hl => hws l (List.mem_of_mem_take hl))
    have hh := head_len hn1 hn6
    refine ⟨_, rfl, ba, _, 0, .int n, rfl, rfl, ha, rfl, n, rfl, small_num (by omega) hn6, _, _, rfl, rfl, ?_, ?_⟩
    · rw [sizeLine_eq]
      show ("hands " : Str).length + (numS n).length ≤ _
      rw [numS_len (by omega) hn6]
      decide +kernel
    refine ⟨_, rfl, ba, _, 1, .ref bb, rfl, rfl, ha, rfl, bb, rfl, ⟨_, hb2⟩, for_tup (K := K) (a := bb) (xs := ys) (fun i σ H1 => ∃ v2, σ = [some (.ref ba), some (.str (bookT n (ws.take i))), v2] ∧ Same H H1) ⟨_, rfl, Same.refl _⟩ (fun i σ H1 _ ⟨_, _, s1⟩ => s1.seqT hb2) ?_ ?_⟩
    · rintro j xv σ H1 hxv ⟨v2, rfl, s1⟩
      obtain ⟨dv, hdv, denv⟩ := denAll_at hys hxv
      rw [List.getElem?_map] at hdv
      cases q : ws[j]? with
      | none => rw [q] at hdv; cases hdv
      | some l =>
        rw [q] at hdv
        obtain rfl : workD l = dv := Option.some.inj hdv
        obtain ⟨pw, rfl, hpw⟩ := den_tints.mp denv
        have hj : j < ws.length := (List.getElem?_eq_some_iff.mp q).1
        obtain ⟨l1, l2, l3⟩ := work_six hn6 (hws l (List.mem_of_getElem? q))
        have n1 := lens j (by omega)
        have n2 := workT_len l1 l2
        have e2 : bookT n (ws.take (j + 1)) = bookT n (ws.take j) ++ "; " ++ workT l := by
          rw [bookT_add n ws (j + 1) (by omega), bookT_add n ws j (by omega), List.take_succ, q, List.foldl_append]
          rfl
        refine ⟨_, rfl, _, _, rfl, rfl, size1 (show (bookT n (ws.take j)).length + 2 ≤ 1000 by omega), rfl, _, rfl, pw, rfl, ⟨_, s1.seqT hpw⟩, comp_fnT (K := K) (a := pw) (xs := l.map V.int) (vs := (l.map numS).map V.str) (fun σ => ∃ v, σ = [v]) (by rw [List.length_map]; omega) (by rw [List.length_map, List.length_map, List.length_map]) (s1.seqT hpw) ⟨none, rfl⟩ ?_ ?_⟩
        · rintro m xv v σ H3 hxv hv ⟨v0, rfl⟩ s3 Q2 hQ2
          rw [List.getElem?_map] at hxv hv
          rw [List.getElem?_map] at hv
          cases q2 : l[m]? with
          | none => rw [q2] at hxv; cases hxv
          | some i =>
            rw [q2] at hxv hv
            obtain rfl : V.int i = xv := Option.some.inj hxv
            obtain rfl : V.str (numS i) = v := Option.some.inj hv
            have hi := l1 i (List.mem_of_getElem? q2)
            exact ⟨_, rfl, i, rfl, small_num hi.1 hi.2, hQ2 _ _ ⟨_, rfl⟩ (Same.refl _)⟩
        · rintro H3 s3 z hz
          refine ⟨_, z, _, rfl, rfl, SqL.of upd_same, nums_fit l1 l2, _, _, rfl, rfl, ?_, ?_⟩
          · refine size1 ?_
            show (bookT n (ws.take j) ++ "; ").length + (workT l).length ≤ 1000
            have : (bookT n (ws.take j) ++ "; " : Str).length = (bookT n (ws.take j)).length + 2 := by
              show ((bookT n (ws.take j)).cps ++ ("; " : Str).cps).size = _
              rw [Array.size_append]
              rfl
            omega
          · refine ⟨some (.ref pw), ?_, s1.trans (s3.trans (Same.new hz))⟩
            rw [e2]
            rfl
    · rintro σ H1 ⟨v2, rfl, s1⟩
      rw [hlw, List.take_length]
      exact ⟨_, rfl, k _ s1⟩
def spShowF (K : PySem.W.Frag) : Sp := fun vs H Q _ => ∃ (p : Addr) (a b : Int), vs = [.ref p] ∧ SqT K H p [.int a, .int b] ∧ a.natAbs.log2 < 300 ∧ b.natAbs.log2 < 300 ∧ Q (.str (fracT a b)) H
theorem app_len (x y : Str) : (x ++ y).length = x.length + y.length := by
  show (x.cps ++ y.cps).size = _
  rw [Array.size_append]
  rfl
theorem numS_len2 {i : Int} (h : i.natAbs.log2 < 300) : (numS i).length ≤ 301 := by
  have := int_text_length_le (a := i) (k := 300) (by decide) h
  have e : (numS i).length = (toString i).length := ofString_length _
  omega
theorem scShowF : FnScope ["fraction", "a", "b"] ["fraction"] (defScope sShowF) := ⟨rfl, rfl, rfl, by decide +kernel, rfl, by decide +kernel, by decide +kernel⟩
theorem ok_showF {f : Addr} {fd : FuncData} (G : Fn K mg "show_fraction" sShowF ["fraction"] f fd) (B : Bl mg) : FnOk P w K mg base CX0 1 f fd ["fraction"] (spShowF K) := by
  refine G.fn.ok scShowF (fun vs H Q E h => ?_) (fun cdv A outer s H vs Q E hr h => ?_)
  · obtain ⟨p, a, b, rfl, _⟩ := h
    rfl
  · obtain ⟨p, a, b, rfl, hp, h1, h2, k⟩ := h
    refine ⟨_, (pss_cons (ps_asg (pv 0) (pg_tup rfl (pgs_cons (pg_name (i := 1) scShowF.nd rfl (Or.inl rfl)) (pgs_cons (pg_name (i := 2) scShowF.nd rfl (Or.inl rfl)) pgs_nil))))
    (pss_one (ps_ret (pe_ifExp (pt_cmpR op_eq (pv 2) pe_int (nomark _)) (pe_js1 (pe_fmt (pv 1))) (pe_js3 (pe_fmt (pv 1)) pe_str (pe_fmt (pv 2))))))), ?_⟩
    have la := numS_len2 h1
    have lb := numS_len2 h2
    refine ⟨_, rfl, p, _, rfl, hp, rfl, _, _, rfl, _, _, rfl, rfl, ?_⟩
    unfold fracT at k
    refine ⟨_, rfl, rfl, _, rfl, ?_⟩
    refine ite2 (fun c1 => ?_) (fun c1 => ?_)
    · have e : b = 1 := by have := of_decide_eq_true c1; injection this
      rw [if_pos e] at k
      exact ⟨_, rfl, a, rfl, Nat.lt_trans h1 (by decide), k⟩
    · have e : b ≠ 1 := fun z => c1 (by rw [z]; exact decide_eq_true rfl)
      rw [if_neg e] at k
      have l1 : (numS a ++ "/" : Str).length ≤ 302 := by rw [app_len]; show _ + 1 ≤ _; omega
      refine ⟨_, rfl, a, rfl, Nat.lt_trans h1 (by decide), _, rfl, size1 (show (numS a).length ≤ 1000 by omega), _, rfl, size1 (show (numS a ++ "/" : Str).length ≤ 1000 by omega), _, rfl, b, rfl, Nat.lt_trans h2 (by decide), _, rfl, size1 ?_, k⟩
      show (numS a ++ "/" ++ numS b : Str).length ≤ 1000
      rw [app_len]
      omega
end
end Ab
set_option Elab.async false
set_option linter.all false
set_option maxRecDepth 100000
namespace L2
open PySem PySem.Spec PyProof.Rows
section
variable {X : Cx} {K : PySem.W.Frag} {H : Hp}
theorem call_isi_intK (hK : X.K = K) : CallR X (.builtin "isinstance") (fun xs H Q => ∃ x k, xs = [x, .ty "int"] ∧ KdV K H x k ∧ Q (.bl (decide (k = .int ∨ k = .bl))) H) := by subst hK; exact call_isi_int
theorem call_isi_boolK (hK : X.K = K) : CallR X (.builtin "isinstance") (fun xs H Q => ∃ x k, xs = [x, .ty "bool"] ∧ KdV K H x k ∧ Q (.bl (decide (k = .bl))) H) := by subst hK; exact call_isi_bool
theorem denAll_strs : ∀ {w : List Str} {xs : List V}, DenAll K H (w.map PyData.str) xs ↔ xs = w.map V.str
  | [], xs => denAll_nil
  | s :: w, xs => by
    rw [List.map_cons, denAll_cons]
    constructor
    · rintro ⟨x, r, rfl, h1, h2⟩
      rw [den_str.mp h1, denAll_strs.mp h2]
      rfl
    · rintro rfl
      exact ⟨_, _, rfl, den_str.mpr rfl, denAll_strs.mpr rfl⟩
theorem den_strs {w : List Str} {v : V} : Den K H (.list (w.map .str)) v ↔ ∃ a, v = .ref a ∧ SqL K H a (w.map V.str) := by
  rw [den_list]
  constructor
  · rintro ⟨a, xs, rfl, h1, h2⟩
    rw [denAll_strs.mp h2] at h1
    exact ⟨a, rfl, h1⟩
  · rintro ⟨a, rfl, h⟩
    exact ⟨a, _, rfl, h, denAll_strs.mpr rfl⟩
end
end L2
namespace Ab
open PySem L2
def wordsOf (n : Int) (ws : List (List Int)) : List (List Str) := ["hands", numS n] :: ws.map (·.map numS)
def rowD (w : List Str) : PyData := .list (w.map .str)
theorem num_signs {i : Int} (h0 : 0 ≤ i) (h6 : i ≤ 6) : (numS i).cps.toList = [48 + i.toNat] := by rw [numS_eq h0 h6]
theorem jn_mem {s : List Nat} {c : Nat} : ∀ {ps : List (List Nat)}, c ∈ jn s ps → c ∈ s ∨ ∃ p ∈ ps, c ∈ p
  | [], h => by cases h
  | [p], h => .inr ⟨p, List.mem_singleton_self _, h⟩
  | p :: q :: r, h => by
    rcases List.mem_append.mp (show c ∈ p ++ s ++ jn s (q :: r) from h) with h | h
    · rcases List.mem_append.mp h with h | h
      · exact .inr ⟨p, List.mem_cons_self .., h⟩
      · exact .inl h
    · rcases jn_mem h with h | ⟨x, hx, h⟩
      · exact .inl h
      · exact .inr ⟨x, List.mem_cons_of_mem _ hx, h⟩
theorem nospace_num {i : Int} (h0 : 0 ≤ i) (h6 : i ≤ 6) : 32 ∉ (numS i).cps.toList ∧ 59 ∉ (numS i).cps.toList := by
  rw [num_signs h0 h6]
  refine ⟨fun h => ?_, fun h => ?_⟩
  · have := List.mem_singleton.mp h; omega
  · have := List.mem_singleton.mp h; omega
theorem split_words {l : List Int} (h : ∀ i ∈ l, 0 ≤ i ∧ i ≤ 6) (hl : l ≠ []) : Txt.split (workT l) " " = l.map numS :=
  split_join (c := 32) (s' := []) (by decide +kernel) (by decide +kernel) (by simpa using hl) fun p hp => by
    obtain ⟨i, hi, rfl⟩ := List.mem_map.mp hp
    exact (nospace_num (h i hi).1 (h i hi).2).1
theorem split_head {n : Int} (h1 : 1 ≤ n) (h6 : n ≤ 6) : Txt.split (("hands " : Str) ++ numS n) " " = [("hands" : Str), numS n] := by
  have e : (("hands " : Str) ++ numS n) = (" " : Str).join [("hands" : Str), numS n] := by
    refine str_ext ?_
    rw [join_list, app_list]
    show ("hands " : Str).cps.toList ++ (numS n).cps.toList = (("hands" : Str).cps.toList ++ (" " : Str).cps.toList) ++ (numS n).cps.toList
    rw [show ("hands " : Str).cps.toList = ("hands" : Str).cps.toList ++ (" " : Str).cps.toList by decide +kernel]
  rw [e]
  refine split_join (c := 32) (s' := []) (by decide +kernel) (by decide +kernel) (by simp) fun p hp => ?_
  rcases List.mem_cons.mp hp with rfl | hp
  · decide +kernel
  · rw [List.mem_singleton.mp hp]
    exact (nospace_num (by omega) h6).1
theorem split_rows {n : Int} {ws : List (List Int)} (hb : isBook (bookD n ws) = true) : Txt.split (bookT n ws) "; " = rowsT n ws := by
  obtain ⟨hn1, hn6, hw, hws⟩ := book_parts hb
  refine split_join (c := 59) (s' := [32]) (by decide +kernel) (by decide +kernel) (List.cons_ne_nil _ _) fun p hp hc => ?_
  rcases List.mem_cons.mp hp with rfl | hp
  · rw [app_list] at hc
    rcases List.mem_append.mp hc with h | h
    · exact absurd h (by decide +kernel)
    · exact (nospace_num (by omega) hn6).2 h
  · obtain ⟨l, hl, rfl⟩ := List.mem_map.mp hp
    obtain ⟨a, _, _⟩ := work_six hn6 (hws l hl)
    have hc' : 59 ∈ jn (" " : Str).cps.toList ((l.map numS).map (·.cps.toList)) := by rw [← join_list]; exact hc
    rcases jn_mem hc' with h | ⟨x, hx, h⟩
    · exact absurd h (by decide +kernel)
    · obtain ⟨y, hy, rfl⟩ := List.mem_map.mp hx
      obtain ⟨i, hi, rfl⟩ := List.mem_map.mp hy
      exact (nospace_num (a i hi).1 (a i hi).2).2 h
def scOutRB : Scope := match (defBody sReadB).getD 5 (.Pass ⟨0, 0, 0, 0⟩) with
  | .Assign _ (.Tuple [_, .Call _ [.ListComp _ _ sc _] _ _] _ _) _ => sc
  | _ => defScope sReadB
section
variable {P : Program} {w : World} {K : PySem.W.Frag} {mg : Str → Option Value} {base : Heap}
variable {fW fH fK fB fNB : Addr} {dW dH dK dB dNB : FuncData}
def spReadB (K : PySem.W.Frag) : Sp := fun vs H Q _ => ∃ (n : Int) (ws : List (List Int)), vs = [.str (bookT n ws)] ∧ isBook (bookD n ws) = true ∧ ∀ p H', Same H H' → Den K H' (bookD n ws) (.ref p) → Q (.ref p) H'
theorem scReadB : FnScope ["text", "rows", "first", "others", "book"] ["text"] (defScope sReadB) := ⟨rfl, rfl, rfl, by decide +kernel, rfl, by decide +kernel, by decide +kernel⟩
set_option maxHeartbeats 2000000 in
theorem ok_readB {f fN : Addr} {fd dN : FuncData} (G : Fn K mg "read_book" sReadB ["text"] f fd) (B : Bl mg) (R : Pr K mg fW fH fK fB fNB dW dH dK dB dNB) (GNm : Fn K mg "is_number" sNumber ["word"] fN dN) : FnOk P w K mg base CX0 4 f fd ["text"] (spReadB K) := by
  have ONm : FnOk P w K mg base CX0 1 fN dN ["word"] spNumber := ok_number GNm B
  have OB3 : FnOk P w K mg base CX0 3 fB dB ["thing"] (spBookP K) := ok_bookP R.B B R.W R.H R.Kw
  refine G.fn.ok scReadB (fun vs H Q E h => ?_) (fun cdv A outer s H vs Q E hr h => ?_)
  · obtain ⟨n, ws, rfl, _⟩ := h
    rfl
  · obtain ⟨n, ws, rfl, hb, k⟩ := h
    have r1 : Room 1 _ := hr.mono (by decide)
    have r3 : Room 3 _ := hr
    refine ⟨_, (pss_cons (ps_if (pt_not (pt_val (pe_callB call_isi_strV rfl B.isinstance b_isi (pa_cons (pv 0) (pa_cons (pe_bltn (v := .ty "str") rfl B.str b_str rfl) pa_nil)))))
      pss_never
      pss_nil)
    (pss_cons (ps_setcomp (i := 1) (own := ["row"]) (fr := []) (frn := []) (compOk_of (defScope sReadB) ["text", "rows", "first", "others", "book"] rfl rfl (by decide +kernel)) rfl scReadB.nd rfl rfl rfl (pi_list (pe_bmK (K := K) rfl PySem.F.plainAttrs_str PySem.F.slot_str_split PySem.F.type_str_split mt_split (pv 0) (pa_cons pe_str pa_nil)))
        (fun _ _ _ _ => (pg_name (i := 0) (show (["row"] : List Str).Nodup by decide +kernel) rfl (Or.inl rfl))) (fun _ _ _ _ => pf_nil)
        (fun _ _ _ _ => (pe_bmK (K := K) rfl PySem.F.plainAttrs_str PySem.F.slot_str_split PySem.F.type_str_split mt_split (pv 0) (pa_cons pe_str pa_nil))))
    (pss_cons (ps_asg (pv 1) (pg_star rfl (pgs_cons (pg_name (i := 2) scReadB.nd rfl (Or.inl rfl)) (pgs_cons (pg_name (i := 3) scReadB.nd rfl (Or.inl rfl)) pgs_nil))))
    (pss_cons (ps_if (PW.pt (pw_or (pt_cmpR op_ne (pe_callB call_len_seq rfl B.len b_len (pa_cons (pv 2) pa_nil)) pe_int (nomark _)) (pw_or (pt_cmpR op_ne (pe_ix ix_list (pv 2) pe_int (fun _ _ => rfl)) pe_str (nomark _)) (pw_or1 (pt_not (pt_val (pe_fn GNm ONm r1 rfl (pa_cons (pe_ix ix_list (pv 2) pe_int (fun _ _ => rfl)) pa_nil))))))))
      pss_never
      pss_nil)
    (pss_cons (ps_if (pt_not (pt_val (pe_callB (call_all rfl) rfl B.all b_all (pa_cons (pe_comp2 (own := ["row", "word"]) (fr := []) (frn := []) (compOk_of (defScope sReadB) ["text", "rows", "first", "others", "book"] rfl rfl (by decide +kernel)) rfl (pi_list (pv 3))
        (fun _ _ _ _ => (pg_name (i := 0) (show (["row", "word"] : List Str).Nodup by decide +kernel) rfl (Or.inl rfl))) (fun _ _ _ _ => (pi_listK (K := K) rfl (pv 0))) (fun _ _ _ _ => (pg_name (i := 1) (show (["row", "word"] : List Str).Nodup by decide +kernel) rfl (Or.inl rfl)))
        (fun _ _ _ _ => (pe_fn GNm ONm r1 rfl (pa_cons (pv 1) pa_nil)))) pa_nil))))
      pss_never
      pss_nil)
    (pss_cons (ps_set (i := 4) scReadB.nd rfl (Or.inl rfl) (pe_tup (pa_cons (pe_callTy call_intS rfl B.int b_int (pa_cons (pe_ix ix_list (pv 2) pe_int (fun _ _ => rfl)) pa_nil)) (pa_cons (pe_callTy call_tuple_of rfl B.tuple b_tuple (pa_cons (pe_comp (own := ["row"]) (fr := []) (frn := []) (compOk_of (defScope sReadB) ["text", "rows", "first", "others", "book"] rfl rfl (by decide +kernel)) rfl (pi_list (pv 3))
        (fun _ _ _ _ => (pg_name (i := 0) (show (["row"] : List Str).Nodup by decide +kernel) rfl (Or.inl rfl))) (fun _ _ _ _ => pf_nil)
        (fun _ _ _ _ => (pe_callTy (kTupOf (K := K) rfl) rfl B.tuple b_tuple (pa_cons (pe_comp (own := ["word"]) (fr := []) (frn := []) (compOk_of (relS scOutRB (defScope sReadB)) ["row"] rfl rfl (by decide +kernel)) rfl (pi_listK (K := K) rfl (pv 0))
        (fun _ _ _ _ => (pg_name (i := 0) (show (["word"] : List Str).Nodup by decide +kernel) rfl (Or.inl rfl))) (fun _ _ _ _ => pf_nil)
        (fun _ _ _ _ => (pe_callTy call_intS rfl B.int b_int (pa_cons (pv 0) pa_nil)))) pa_nil)))) pa_nil)) pa_nil))))
    (pss_cons (ps_if (pt_not (pt_val (pe_fn R.B OB3 r3 rfl (pa_cons (pv 4) pa_nil))))
      pss_never
      pss_nil)
    (pss_one (ps_ret (pv 4)))))))))), ?_⟩
    obtain ⟨hn1, hn6, hw12, hws⟩ := book_parts hb
    have hbl := bookT_len hb
    refine ⟨_, rfl, _, rfl, _, rfl, ?_⟩
    refine iteF ?_
    refine ⟨_, rfl, rfl, _, _, rfl, rfl, by decide +kernel, by rw [sizeLine_eq]; omega, fun p1 hp1 => ?_⟩
    rw [split_rows hb]
    have s1 := Same.new (o := .lst ((rowsT n ws).map V.str)) hp1
    have e1 : upd H p1 (.lst ((rowsT n ws).map V.str)) p1 = some (.lst ((rowsT n ws).map V.str)) := upd_same
    generalize upd H p1 (.lst ((rowsT n ws).map V.str)) = H1 at s1 e1 ⊢
    have rl := rowsT_len hb
    have hsp : ∀ j t, (rowsT n ws)[j]? = some t → ∃ u, (wordsOf n ws)[j]? = some u ∧ Txt.split t " " = u ∧ t.length ≤ 12 := fun j t ht => by
      have tl := rl.1 t (List.mem_of_getElem? ht)
      cases j with
      | zero =>
        obtain rfl : ("hands " : Str) ++ numS n = t := Option.some.inj ht
        exact ⟨_, rfl, split_head hn1 hn6, tl⟩
      | succ j =>
        have ht : (ws.map workT)[j]? = some t := ht
        rw [List.getElem?_map] at ht
        cases q : ws[j]? with
        | none => rw [q] at ht; cases ht
        | some l =>
          rw [q] at ht
          obtain rfl : workT l = t := Option.some.inj ht
          obtain ⟨a, _, c⟩ := work_six hn6 (hws l (List.mem_of_getElem? q))
          exact ⟨l.map numS, by show (ws.map (·.map numS))[j]? = _; rw [List.getElem?_map, q]; rfl, split_words a c, tl⟩
    refine ⟨p1, rfl, ⟨_, SqL.of e1⟩, comp_list (K := K) (a := p1) (xs := (rowsT n ws).map V.str) (fun σ => ∃ v, σ = [v]) (fun i zs H2 => Same H1 H2 ∧ DenAll K H2 (((wordsOf n ws).take i).map rowD) zs ∧ zs.length = i) (size1 (by rw [List.length_map]; omega)) ⟨none, rfl⟩ ⟨Same.refl _, denAll_nil.mpr rfl, rfl⟩ (fun i zs H2 h => Nat.le_of_eq h.2.2) (fun i zs H2 h => h.1.seqL (SqL.of e1)) ?_ ?_⟩
    · rintro i zs σ x H2 hx ⟨v, rfl⟩ ⟨s2, hd, hl⟩ hz
      rw [List.getElem?_map] at hx
      cases q : (rowsT n ws)[i]? with
      | none => rw [q] at hx; cases hx
      | some t =>
        rw [q] at hx
        obtain rfl : V.str t = x := Option.some.inj hx
        obtain ⟨u, hu, hsu, htl⟩ := hsp i t q
        refine nameAll_go ?_
        refine ⟨_, rfl, rfl, _, _, rfl, rfl, by decide +kernel, by rw [sizeLine_eq]; omega, fun p2 hp2 => ?_⟩
        rw [hsu]
        refine ⟨hz, ⟨_, rfl⟩, s2.trans (Same.new hp2), ?_, by rw [List.length_append, hl]; rfl⟩
        rw [List.take_succ, hu, List.map_append]
        exact denAll_append ((Same.new hp2).denAll _ _ hd) (denAll_cons.mpr ⟨_, _, rfl, den_strs.mpr ⟨p2, rfl, SqL.of upd_same⟩, denAll_nil.mpr rfl⟩)
    · rintro zs H2 ⟨s2, hd, hl⟩ p2 hp2
      have ewl : (wordsOf n ws).length = (rowsT n ws).length := by show (ws.map _).length + 1 = (ws.map _).length + 1; rw [List.length_map, List.length_map]
      rw [List.length_map, ← ewl, List.take_length] at hd
      have s3 := s2.trans (Same.new (o := .lst zs) hp2)
      have d3 := (Same.new (o := .lst zs) hp2).denAll _ _ hd
      have e3 : upd H2 p2 (.lst zs) p2 = some (.lst zs) := upd_same
      generalize upd H2 p2 (.lst zs) = H3 at s3 d3 e3 ⊢
      obtain ⟨x0, xr, rfl, d0, dr⟩ := denAll_cons.mp (show DenAll K H3 (rowD ["hands", numS n] :: (ws.map (·.map numS)).map rowD) zs from d3)
      obtain ⟨q0, rfl, hq0⟩ := den_strs.mp d0
      refine ⟨_, rfl, p2, _, _, rfl, SqL.of e3, fun p3 hp3 => ⟨_, _, rfl, _, _, rfl, rfl, ?_⟩⟩
      have s4 := Same.new (o := .lst xr) hp3
      have e4 : upd H3 p3 (.lst xr) p3 = some (.lst xr) := upd_same
      have d4 := s4.denAll _ _ dr
      have q4 := s4.seqL hq0
      have s04 := s1.trans (s3.trans s4)
      generalize upd H3 p3 (.lst xr) = H4 at s4 e4 d4 q4 s04 ⊢
      have hxr : xr.length = ws.length := by rw [denAll_length d4, List.length_map, List.length_map]
      refine ⟨_, rfl, q0, _, rfl, .inl q4, rfl, _, rfl, ?_⟩
      refine iteF ?_
      refine ⟨_, rfl, q0, _, 0, .str "hands", rfl, rfl, q4, rfl, rfl, _, rfl, ?_⟩
      rw [show (!decide (V.str "hands" = V.str "hands")) = false by simp]
      refine iteF ?_
      refine ⟨_, rfl, q0, _, 1, .str (numS n), rfl, rfl, q4, rfl, n, rfl, by omega, hn6, fun H5 s5 => ⟨_, rfl, ?_⟩⟩
      refine iteF ?_
      have d5 := s5.denAll _ _ d4
      have e5 := s5 _ _ e4
      have q5 := s5.seqL q4
      have s05 := s04.trans s5
      have row5 : ∀ {H'} (j : Nat) (x : V), Same H5 H' → xr[j]? = some x → ∃ l q, ws[j]? = some l ∧ x = .ref q ∧ SqL K H' q ((l.map numS).map V.str) ∧ (∀ i ∈ l, 0 ≤ i ∧ i ≤ 6) ∧ l.length ≤ 6 := fun {H'} j x s' hx => by
        obtain ⟨dv, hdv, denv⟩ := denAll_at (s'.denAll _ _ d5) hx
        rw [List.getElem?_map, List.getElem?_map] at hdv
        cases q : ws[j]? with
        | none => rw [q] at hdv; cases hdv
        | some l =>
          rw [q] at hdv
          obtain rfl : rowD (l.map numS) = dv := Option.some.inj hdv
          obtain ⟨a, rfl, ha⟩ := den_strs.mp denv
          obtain ⟨w1, w2, _⟩ := work_six hn6 (hws l (List.mem_of_getElem? q))
          exact ⟨l, a, rfl, rfl, ha, w1, w2⟩
      refine ⟨_, rfl, p3, rfl, ⟨_, SqL.of e5⟩, comp2_it (J := Itl K p3) (n := ws.length) (vss := ws.map fun l => l.map fun _ => V.bl true) (fun σ => ∃ v0 v1, σ = [v0, v1]) ?_ (by rw [List.length_map]) ⟨_, _, rfl⟩ (fun H' s' => ⟨xr, s'.seqL (SqL.of e5), by omega⟩) (fun i H' hi s' => ⟨xr, xr[i]'(by omega), s'.seqL (SqL.of e5), List.getElem?_eq_getElem _⟩) ?_ ?_⟩
      · have : ∀ us : List (List Int), (∀ l ∈ us, l.length ≤ 6) → ((us.map fun l => l.map fun _ => V.bl true).flatten).length ≤ us.length * 6 := fun us => by
          induction us with
          | nil => intro _; simp
          | cons l us ih =>
            intro h
            have h1 := h l (List.mem_cons_self ..)
            have h2 := ih fun y hy => h y (List.mem_cons_of_mem _ hy)
            rw [List.map_cons, List.flatten_cons, List.length_append, List.length_map, List.length_cons]
            omega
        have := this ws fun l hl => (work_six hn6 (hws l hl)).2.1
        omega
      · rintro i vs x σ H6 H7 hi hv ⟨v0, v1, rfl⟩ s6 ⟨rfl, hy⟩ P' hP
        obtain ⟨l, q, hl, rfl, hq, w1, w2⟩ := row5 i x s6 (hy _ (s6.seqL (SqL.of e5)))
        rw [List.getElem?_map, hl] at hv
        obtain rfl : (l.map fun _ => V.bl true) = vs := Option.some.inj hv
        refine ⟨_, rfl, q, rfl, ⟨_, hq⟩, hP _ _ _ (Same.refl _) ⟨fun σ => ∃ v1, σ = [some (.ref q), v1], ⟨_, rfl⟩, fun σ3 ⟨_, e⟩ => ⟨_, _, e⟩, fun H' s' => ⟨_, s'.seqL hq, by rw [List.length_map, List.length_map, List.length_map]; exact Nat.le_refl _⟩, fun j H' hj s' => ⟨(l.map numS).map V.str, ((l.map numS).map V.str)[j]'(by rw [List.length_map] at hj; rw [List.length_map, List.length_map]; exact hj), s'.seqL hq, List.getElem?_eq_getElem _⟩, ?_⟩⟩
        rintro j v yv σ3 H8 H9 hvj ⟨v2', rfl⟩ s8 ⟨rfl, hy2⟩ Q' hQ'
        have hyv := hy2 _ (s8.seqL hq)
        rw [List.getElem?_map, List.getElem?_map] at hyv
        rw [List.getElem?_map] at hvj
        cases q2 : l[j]? with
        | none => rw [q2] at hyv; cases hyv
        | some o =>
          rw [q2] at hyv hvj
          obtain rfl : V.str (numS o) = yv := Option.some.inj hyv
          obtain rfl : V.bl true = v := Option.some.inj hvj
          have ho := w1 o (List.mem_of_getElem? q2)
          exact ⟨_, rfl, o, rfl, ho.1, ho.2, fun H10 s10 => hQ' _ _ ⟨_, rfl⟩ s10⟩
      · rintro H6 s6 z hz
        refine ⟨z, (ws.map fun l => l.map fun _ => true).flatten, rfl, SqL.of ?_, _, rfl, ?_⟩
        · rw [upd_same, List.map_flatten, List.map_map]
          congr 3
          refine List.map_congr_left fun l _ => ?_
          show _ = List.map V.bl (List.map (fun _ => true) l)
          rw [List.map_map]
          rfl
        rw [show ((ws.map fun l => l.map fun _ => true).flatten).all id = true by rw [List.all_flatten, List.all_map, List.all_eq_true]; intro l _; show (List.map (fun _ => true) l).all id = true; rw [List.all_map, List.all_eq_true]; intro _ _; rfl]
        refine iteF ?_
        have s7 := s6.trans (Same.new (o := .lst (List.map (fun l => List.map (fun _ => V.bl true) l) ws).flatten) hz)
        have q7 := s7.seqL q5
        have e7 := s7 _ _ e5
        generalize upd H6 z (.lst (List.map (fun l => List.map (fun _ => V.bl true) l) ws).flatten) = H7 at s7 q7 e7 ⊢
        have nr : intText? (numS n) = some n := PySem.W.KIN.num_reads (by omega) (by omega)
        refine ⟨_, rfl, q0, _, 1, .str (numS n), rfl, rfl, q7, rfl, _, n, rfl, nr, by rw [numS_len (by omega) hn6]; decide, ?_⟩
        refine ⟨_, rfl, p3, rfl, ⟨_, SqL.of e7⟩, comp_list (K := K) (a := p3) (xs := xr) (fun σ => ∃ v, σ = [v]) (fun i zs H8 => Same H7 H8 ∧ DenAll K H8 ((ws.take i).map workD) zs ∧ zs.length = i) (size1 (by omega)) ⟨none, rfl⟩ ⟨Same.refl _, denAll_nil.mpr rfl, rfl⟩ (fun i zs H8 h => Nat.le_of_eq h.2.2) (fun i zs H8 h => h.1.seqL (SqL.of e7)) ?_ ?_⟩
        · rintro i zs σ x H8 hx ⟨v, rfl⟩ ⟨s8, hd8, hl8⟩ hz8
          obtain ⟨l, q, hl, rfl, hq, w1, w2⟩ := row5 i x (s7.trans s8) hx
          refine nameAll_go ?_
          refine ⟨_, rfl, q, rfl, ⟨_, hq⟩, comp_fnL (K := K) (a := q) (xs := (l.map numS).map V.str) (vs := l.map V.int) (fun σ => ∃ v, σ = [v]) (by rw [List.length_map, List.length_map]; omega) (by rw [List.length_map, List.length_map, List.length_map]) hq ⟨none, rfl⟩ ?_ ?_⟩
          · rintro m xv v σ H9 hxv hv ⟨v0, rfl⟩ s9 Q2 hQ2
            rw [List.getElem?_map, List.getElem?_map] at hxv
            rw [List.getElem?_map] at hv
            cases q2 : l[m]? with
            | none => rw [q2] at hxv; cases hxv
            | some o =>
              rw [q2] at hxv hv
              obtain rfl : V.str (numS o) = xv := Option.some.inj hxv
              obtain rfl : V.int o = v := Option.some.inj hv
              have ho := w1 o (List.mem_of_getElem? q2)
              exact ⟨_, rfl, _, o, rfl, PySem.W.KIN.num_reads ho.1 (by omega), by rw [numS_len ho.1 ho.2]; decide, hQ2 _ _ ⟨_, rfl⟩ (Same.refl _)⟩
          · rintro H9 s9 z9 hz9
            refine ⟨z9, _, rfl, .inl ⟨SqL.of upd_same, fun t9 ht9 => ?_⟩⟩
            have s10 := s9.trans ((Same.new (o := .lst (l.map V.int)) hz9).trans (Same.new (o := .tup (l.map V.int)) ht9))
            refine ⟨hz8, ⟨_, rfl⟩, s8.trans s10, ?_, by rw [List.length_append, hl8]; rfl⟩
            rw [List.take_succ, hl, List.map_append]
            exact denAll_append (s10.denAll _ _ hd8) (denAll_cons.mpr ⟨_, _, rfl, den_tints.mpr ⟨t9, rfl, SqT.of upd_same⟩, denAll_nil.mpr rfl⟩)
        · rintro zs H8 ⟨s8, hd8, hl8⟩ z8 hz8
          rw [hxr, List.take_length] at hd8
          refine ⟨z8, _, rfl, .inl ⟨SqL.of upd_same, fun t8 ht8 => ⟨sz2 _ _, fun b8 hb8 => ?_⟩⟩⟩
          have s9 := (Same.new (o := .lst zs) hz8).trans ((Same.new (o := .tup zs) ht8).trans (Same.new (o := .tup [.int n, .ref t8]) hb8))
          have et : upd (upd (upd H8 z8 (.lst zs)) t8 (.tup zs)) b8 (.tup [.int n, .ref t8]) t8 = some (.tup zs) := (Same.new hb8) _ _ upd_same
          have db : Den K (upd (upd (upd H8 z8 (.lst zs)) t8 (.tup zs)) b8 (.tup [.int n, .ref t8])) (bookD n ws) (.ref b8) := den_tuple.mpr ⟨b8, _, rfl, SqT.of upd_same, denAll_cons.mpr ⟨_, _, rfl, den_int.mpr rfl, denAll_cons.mpr ⟨_, _, rfl, den_tuple.mpr ⟨t8, zs, rfl, SqT.of et, s9.denAll _ _ hd8⟩, denAll_nil.mpr rfl⟩⟩⟩
          generalize upd (upd (upd H8 z8 (.lst zs)) t8 (.tup zs)) b8 (.tup [.int n, .ref t8]) = H9 at s9 db ⊢
          refine ⟨_, rfl, _, _, rfl, db, fun H10 s10 => ⟨_, rfl, ?_⟩⟩
          rw [hb]
          refine iteF ?_
          exact ⟨_, rfl, k b8 H10 (s05.trans (s7.trans (s8.trans (s9.trans s10)))) (s10.den _ _ db)⟩
def spLow : Sp := fun vs H Q _ => ∃ a b : Int, vs = [.int a, .int b] ∧ 0 ≤ a ∧ 0 < b ∧ a.natAbs < 2 ^ 300 ∧ b.natAbs < 2 ^ 300 ∧ ∀ p H' c d, Same H H' → H' p = some (.tup [.int c, .int d]) → 0 ≤ c → c ≤ a → 0 ≤ d → d ≤ b → Q (.ref p) H'
theorem scLow : FnScope ["top", "bottom", "one", "other"] ["top", "bottom"] (defScope sLow) := ⟨rfl, rfl, rfl, by decide +kernel, rfl, by decide +kernel, by decide +kernel⟩
theorem ok_low {f : Addr} {fd : FuncData} (G : Fn K mg "_law_e_low" sLow ["top", "bottom"] f fd) (B : Bl mg) : FnOk P w K mg base CX0 1 f fd ["top", "bottom"] spLow := by
  refine G.fn.ok scLow (fun vs H Q E h => ?_) (fun cdv A outer s H vs Q E hr h => ?_)
  · obtain ⟨a, b, rfl, _⟩ := h
    rfl
  · obtain ⟨a, b, rfl, ha, hb, la, lb, k⟩ := h
    refine ⟨_, (pss_cons (ps_par (i := 2) (j := 3) rfl scLow.nd rfl rfl (by decide) rfl rfl (pa_cons (pv 0) (pa_cons (pv 1) pa_nil)) rfl)
    (pss_cons (ps_while PassesOwn.never (pt_cmpR op_ne (pv 3) pe_int (nomark _))
      (pss_one (ps_par (i := 2) (j := 3) rfl scLow.nd rfl rfl (by decide) rfl rfl (pa_cons (pv 3) (pa_cons (pe_op op_mod (pv 2) (pv 3)) pa_nil)) rfl)))
    (pss_one (ps_ret (pe_tup (pa_cons (pe_op op_fdivG (pv 0) (pv 2)) (pa_cons (pe_op op_fdivG (pv 1) (pv 2)) pa_nil))))))), ?_⟩
    refine ⟨_, rfl, _, rfl, _, _, rfl, ?_⟩
    refine ⟨fun m σ H1 => ∃ x y : Int, σ = [some (.int a), some (.int b), some (.int x), some (.int y)] ∧ H1 = H ∧ m = y.toNat ∧ 0 ≤ y ∧ 0 ≤ x ∧ (y = 0 → 0 < x) ∧ x ≤ a + b ∧ y ≤ a + b, ⟨_, a, b, rfl, rfl, rfl, by omega, ha, by omega, by omega, by omega⟩, ?_⟩
    rintro m σ H1 ⟨x, y, rfl, rfl, rfl, hy, hx0, hx, x1, y1⟩
    refine ⟨_, rfl, rfl, _, rfl, ?_⟩
    refine ite2 (fun c => ?_) (fun c => ?_)
    · have hy0 : y ≠ 0 := by simpa using c
      have hyp : 0 < y := by omega
      refine ⟨fun σ H2 => ∃ u v : Int, σ = [some (.int a), some (.int b), some (.int u), some (.int v)] ∧ H2 = H1 ∧ v.toNat < y.toNat ∧ 0 ≤ v ∧ 0 ≤ u ∧ (v = 0 → 0 < u) ∧ u ≤ a + b ∧ v ≤ a + b, ?_, ?_⟩
      · rintro σ' H' ⟨u, v, rfl, rfl, h1, h2⟩
        exact ⟨_, h1, u, v, rfl, rfl, rfl, h2⟩
      · refine ⟨_, rfl, _, rfl, _, rfl, _, _, rfl, rfl, hyp, _, _, rfl, ?_⟩
        have l1 := Int.emod_nonneg x hy0
        have l2 := Int.emod_lt_of_pos x hyp
        exact ⟨y, x % y, rfl, rfl, by omega, l1, by omega, fun _ => hyp, by omega, by omega⟩
    · have hy0 : y = 0 := by simpa using c
      subst hy0
      have hx' := hx rfl
      have big : x.natAbs < 2 ^ 4000 := by
        have h1 : x.natAbs ≤ a.natAbs + b.natAbs := by omega
        have h2 : (2 : Nat) ^ 300 + 2 ^ 300 ≤ 2 ^ 4000 := by decide +kernel
        omega
      have q1 : a / x ≤ a := Int.ediv_le_self x ha
      have q2 : b / x ≤ b := Int.ediv_le_self x (by omega)
      exact ⟨_, rfl, _, rfl, _, _, rfl, rfl, ⟨hx', big⟩, _, rfl, _, rfl, _, _, rfl, rfl, ⟨hx', big⟩, sz2 _ _, fun p hp => k p _ _ _ (Same.new hp) upd_same (Int.ediv_nonneg ha (by omega)) q1 (Int.ediv_nonneg (by omega) (by omega)) q2⟩
def spAllW (K : PySem.W.Frag) : Sp := fun vs H Q _ => ∃ (x : V) (n : Int) (ws : List (List Int)), vs = [x] ∧ Den K H (bookD n ws) x ∧ isBook (bookD n ws) = true ∧ ∀ H', Same H H' → Q (.bl true) H'
theorem scAllW : FnScope ["book", "some", "work"] ["book"] (defScope sAllW) := ⟨rfl, rfl, rfl, by decide +kernel, rfl, by decide +kernel, by decide +kernel⟩
set_option maxHeartbeats 1000000 in
theorem ok_allW {f : Addr} {fd : FuncData} (G : Fn K mg "_law_e_all_whole" sAllW ["book"] f fd) (B : Bl mg) : FnOk P w K mg base CX0 1 f fd ["book"] (spAllW K) := by
  refine G.fn.ok scAllW (fun vs H Q E h => ?_) (fun cdv A outer s H vs Q E hr h => ?_)
  · obtain ⟨x, n, ws, rfl, _⟩ := h
    rfl
  · obtain ⟨x, n, ws, rfl, hx, hb, k⟩ := h
    refine ⟨_, (pss_cons (ps_set (i := 1) scAllW.nd rfl (Or.inl rfl) (pe_lst (pa_cons (pe_ix ix_tup (pv 0) pe_int (fun _ _ => rfl)) pa_nil)))
    (pss_cons (ps_for PassesOwn.never rfl (pi_tup (pe_ix ix_tup (pv 0) pe_int (fun _ _ => rfl))) (pg_name (i := 2) scAllW.nd rfl (Or.inl rfl))
      (pss_one (ps_set (i := 1) scAllW.nd rfl (Or.inl rfl) (pe_op op_cat (pv 1) (pe_callTy call_list_of rfl B.list b_list (pa_cons (pv 2) pa_nil))))))
    (pss_one (ps_ret (pe_callB (call_all rfl) rfl B.all b_all (pa_cons (pe_comp (own := ["number"]) (fr := []) (frn := []) (compOk_of (defScope sAllW) ["book", "some", "work"] rfl rfl (by decide +kernel)) rfl (pi_list (pv 1))
        (fun _ _ _ _ => (pg_name (i := 0) (show (["number"] : List Str).Nodup by decide +kernel) rfl (Or.inl rfl))) (fun _ _ _ _ => pf_nil)
        (fun _ _ _ _ => (pe_and (pe_callB (call_isi_intK (K := K) rfl) rfl B.isinstance b_isi (pa_cons (pv 0) (pa_cons (pe_bltn (v := .ty "int") rfl B.int b_int rfl) pa_nil))) (pe_one (pe_not (pe_callB (call_isi_boolK (K := K) rfl) rfl B.isinstance b_isi (pa_cons (pv 0) (pa_cons (pe_bltn (v := .ty "bool") rfl B.bool b_bool rfl) pa_nil)))))))) pa_nil)))))), ?_⟩
    obtain ⟨hn1, hn6, hw12, hws⟩ := book_parts hb
    obtain ⟨ba, bb, ys, rfl, ha, hb2, hys⟩ := den_book hx
    have hlw := denAll_length hys
    rw [List.length_map] at hlw
    refine ⟨_, rfl, ba, _, 0, .int n, rfl, rfl, ha, rfl, sz1 _, fun p1 hp1 => ?_⟩
    have s1 := Same.new (o := .lst [.int n]) hp1
    have e1 : upd H p1 (.lst [.int n]) p1 = some (.lst [.int n]) := upd_same
    generalize upd H p1 (.lst [.int n]) = H1 at s1 e1 ⊢
    refine ⟨_, rfl, ba, _, 1, .ref bb, rfl, rfl, s1.seqT ha, rfl, bb, rfl, ⟨_, s1.seqT hb2⟩, for_tup (K := K) (a := bb) (xs := ys) (fun i σ H2 => ∃ (q : Addr) (l : List Int) (v2 : Option V), σ = [some (.ref ba), some (.ref q), v2] ∧ H2 q = some (.lst (l.map V.int)) ∧ l.length ≤ 1 + 6 * i ∧ Same H H2) ⟨p1, [n], _, rfl, e1, Nat.le_refl _, s1⟩ (fun i σ H2 _ ⟨_, _, _, _, _, _, s2⟩ => s2.seqT hb2) ?_ ?_⟩
    · rintro j xv σ H2 hxv ⟨q, l, v2, rfl, hq, hl, s2⟩
      have hj : j < ys.length := (List.getElem?_eq_some_iff.mp hxv).1
      obtain ⟨dv, hdv, denv⟩ := denAll_at hys hxv
      rw [List.getElem?_map] at hdv
      cases qq : ws[j]? with
      | none => rw [qq] at hdv; cases hdv
      | some u =>
        rw [qq] at hdv
        obtain rfl : workD u = dv := Option.some.inj hdv
        obtain ⟨pw, rfl, hpw⟩ := den_tints.mp denv
        obtain ⟨l1, l2, l3⟩ := work_six hn6 (hws u (List.mem_of_getElem? qq))
        refine ⟨_, rfl, _, rfl, pw, _, rfl, .inr (s2.seqT hpw), fun p2 hp2 => ?_⟩
        refine ⟨q, p2, _, _, rfl, rfl, (Same.new hp2) _ _ hq, upd_same, size1 (by rw [List.length_map, List.length_map]; omega), fun p3 hp3 => ?_⟩
        exact ⟨p3, l ++ u, _, rfl, by rw [upd_same, List.map_append], by rw [List.length_append]; omega, s2.trans ((Same.new hp2).trans (Same.new hp3))⟩
    · rintro σ H2 ⟨q, l, v2, rfl, hq, hl, s2⟩
      refine ⟨_, rfl, q, rfl, ⟨_, SqL.of hq⟩, comp_fnL (K := K) (a := q) (xs := l.map V.int) (vs := (l.map fun _ => true).map V.bl) (fun σ => ∃ v, σ = [v]) (by rw [List.length_map]; omega) (by rw [List.length_map, List.length_map, List.length_map]) (SqL.of hq) ⟨none, rfl⟩ ?_ ?_⟩
      · rintro m xv v σ H3 hxv hv ⟨v0, rfl⟩ s3 Q2 hQ2
        rw [List.getElem?_map] at hxv hv
        rw [List.getElem?_map] at hv
        cases q2 : l[m]? with
        | none => rw [q2] at hxv; cases hxv
        | some o =>
          rw [q2] at hxv hv
          obtain rfl : V.int o = xv := Option.some.inj hxv
          obtain rfl : V.bl true = v := Option.some.inj hv
          refine ⟨_, rfl, _, _, rfl, rfl, true, rfl, iteT ⟨_, rfl, _, _, rfl, rfl, false, rfl, hQ2 _ _ ⟨_, rfl⟩ (Same.refl _)⟩⟩
      · rintro H3 s3 z hz
        refine ⟨z, _, rfl, SqL.of upd_same, ?_⟩
        rw [show ((l.map fun _ => true).all id) = true by rw [List.all_map, List.all_eq_true]; intro _ _; rfl]
        exact k _ (s2.trans (s3.trans (Same.new hz)))
end
end Ab
set_option Elab.async false
set_option linter.all false
set_option maxRecDepth 100000
namespace Ab
open PySem L2
theorem tAnd_any {tA tB : TT} {σ : St} {H : Hp} {Q : Bool → Hp → Prop} (hA : ∀ R : Bool → Hp → Prop, (∀ b, R b H) → tA σ H R) (hB : ∀ R : Bool → Hp → Prop, (∀ b, R b H) → tB σ H R) (h : ∀ b, Q b H) : tAnd tA tB σ H Q := by
  refine hA _ fun b => ?_
  cases b with
  | false => exact iteF (h false)
  | true => exact iteT (hB _ h)
theorem op_neSelf (v : V) : (!decide (v = v)) = false := by simp
theorem canLay_work (l : List Int) : (workD l).canLay0 = true := canLay_tints l
theorem canLay_book (n : Int) (ws : List (List Int)) : (bookD n ws).canLay0 = true := by
  have h : (PyData.tuple (ws.map workD)).canLay0 = true := by unfold PyData.canLay0; exact canLay_map _ canLay_work ws
  unfold bookD
  rw [PyData.canLay0, PyData.canLayAll0, PyData.canLayAll0, canLay_int, h, PyData.canLayAll0]
  rfl
theorem depth_work (l : List Int) : (workD l).depth ≤ 1 := depth_tints l
theorem depth_book (n : Int) (ws : List (List Int)) : (bookD n ws).depth ≤ 3 := by
  have h : (PyData.tuple (ws.map workD)).depth ≤ 2 := by unfold PyData.depth; exact Nat.succ_le_succ (depth_map _ depth_work ws)
  have h2 := depth_int n
  unfold bookD
  rw [PyData.depth, PyData.depthAll, PyData.depthAll, PyData.depthAll]
  omega
theorem noDicts_map {α : Type} (f : α → PyData) (h : ∀ x, noDict (f x) = true) : ∀ l : List α, noDicts (l.map f) = true
  | [] => by unfold List.map noDicts; rfl
  | x :: r => by rw [List.map_cons]; unfold noDicts; rw [h x, noDicts_map f h r]; rfl
theorem noDict_book (n : Int) (ws : List (List Int)) : noDict (bookD n ws) = true := by
  unfold bookD noDict noDicts
  rw [show noDict (.int n) = true by unfold noDict; rfl]
  unfold noDicts noDict
  rw [noDicts_map workD (fun l => noDict_tints l) ws]
  unfold noDicts
  rfl
theorem shaped_book (n : Int) (ws : List (List Int)) : SeqAt.shaped (bookD n ws) = true := shaped_of (canLay_book n ws) (Nat.le_trans (depth_book n ws) (by decide))
theorem eqvAll_self {α : Type} (f : α → PyData) (h : ∀ x, PyData.eqv (f x) (f x) = true) : ∀ l : List α, PyData.eqvAll (l.map f) (l.map f) = true
  | [] => by simp [PyData.eqvAll]
  | x :: r => by rw [List.map_cons, PyData.eqvAll, h x, eqvAll_self f h r]; rfl
theorem eqv_int (i : Int) : PyData.eqv (.int i) (.int i) = true := by simp [PyData.eqv]
theorem eqv_work (l : List Int) : PyData.eqv (workD l) (workD l) = true := by
  unfold workD
  rw [PyData.eqv]
  exact eqvAll_self _ eqv_int l
theorem eqv_book (n : Int) (ws : List (List Int)) : PyData.eqv (bookD n ws) (bookD n ws) = true := by
  unfold bookD
  rw [PyData.eqv, PyData.eqvAll, eqv_int, PyData.eqvAll, PyData.eqv, eqvAll_self _ eqv_work ws, PyData.eqvAll]
  rfl
theorem app_emp (x : Str) : x ++ ("" : Str) = x := str_ext (by rw [app_list]; exact List.append_nil _)
theorem app_app (x y z : Str) : x ++ (y ++ z) = x ++ y ++ z := str_ext (by rw [app_list, app_list, app_list, app_list, List.append_assoc])
def Sml (i : Int) : Prop := 0 ≤ i ∧ i.natAbs < 2 ^ 290
theorem Sml.log {i : Int} (h : Sml i) : i.natAbs.log2 < 300 := by
  by_cases hz : i.natAbs = 0
  · rw [hz]; decide
  · have := (Nat.log2_lt (k := 290) hz).mpr h.2
    omega
theorem sml_mul {o i : Int} (h0 : 0 ≤ o) (h9 : o ≤ 9) (hi : 0 ≤ i) (h : i.natAbs < 2 ^ 250) : Sml (o * i) := by
  refine ⟨Int.mul_nonneg h0 hi, ?_⟩
  rw [Int.natAbs_mul]
  have h1 : o.natAbs ≤ 9 := by omega
  have h2 : o.natAbs * i.natAbs ≤ 9 * i.natAbs := Nat.mul_le_mul_right _ h1
  have h3 : 9 * 2 ^ 250 ≤ 2 ^ 290 := by decide +kernel
  omega
section
variable {P : Program} {w : World} {K : PySem.W.Frag} {mg : Str → Option Value} {base : Heap}
def spLaw (K : PySem.W.Frag) : Sp := fun vs H Q _ => ∃ (a : Addr) (ns : List Int), vs = [.ref a] ∧ SqL K H a (ns.map V.int) ∧ ∀ H', Q (.bl true) H'
theorem scLaw : FnScope ["script", "jar", "k", "book", "turn", "told", "found", "most", "top", "bottom", "often", "some", "one", "due"] ["script"] (defScope sLaw) := ⟨rfl, rfl, rfl, by decide +kernel, rfl, by decide +kernel, by decide +kernel⟩
set_option maxHeartbeats 8000000 in
theorem ok_law {f fB fS fR fT fL fA fC fF : Addr} {fd dB dS dR dT dL dA dC dF : FuncData} (G : Fn K mg "law" sLaw ["script"] f fd) (B : Bl mg) (GEb : Fn K mg "_law_e_book" sEBook ["jar", "most"] fB dB) (OEb : FnOk P w K mg base CX0 4 fB dB ["jar", "most"] (spEBook K))
    (GSb : Fn K mg "show_book" sShowB ["book"] fS dS) (OSb : FnOk P w K mg base CX0 5 fS dS ["book"] (spShowB K)) (GRb : Fn K mg "read_book" sReadB ["text"] fR dR) (ORb : FnOk P w K mg base CX0 4 fR dR ["text"] (spReadB K)) (GTx : Fn K mg "_law_e_text" sText ["book"] fT dT) (OTx : FnOk P w K mg base CX0 1 fT dT ["book"] (spText K))
    (GLo : Fn K mg "_law_e_low" sLow ["top", "bottom"] fL dL) (OLo : FnOk P w K mg base CX0 1 fL dL ["top", "bottom"] spLow) (GAw : Fn K mg "_law_e_all_whole" sAllW ["book"] fA dA) (OAw : FnOk P w K mg base CX0 1 fA dA ["book"] (spAllW K)) (GSc : Fn K mg "_law_e_scoop" sScoop ["jar", "many"] fC dC) (OSc : FnOk P w K mg base CX0 2 fC dC ["jar", "many"] (spScoop K))
    (GSf : Fn K mg "show_fraction" sShowF ["fraction"] fF dF) (OSf : FnOk P w K mg base CX0 1 fF dF ["fraction"] (spShowF K)) : FnOk P w K mg base CX0 6 f fd ["script"] (spLaw K) := by
  refine G.fn.ok scLaw (fun vs H Q E h => ?_) (fun cdv A outer s H vs Q E hr h => ?_)
  · obtain ⟨a, ns, rfl, _⟩ := h
    rfl
  · obtain ⟨a, ns, rfl, hns, k⟩ := h
    have r1 : Room 1 _ := hr.mono (by decide)
    have r2 : Room 2 _ := hr.mono (by decide)
    have r4 : Room 4 _ := hr.mono (by decide)
    have r5 : Room 5 _ := hr
    refine PSso.ex (psso_cons ⟨(ps_set (i := 1) scLaw.nd rfl (Or.inl rfl) (pe_lst (pa_cons (pv 0) (pa_cons pe_int (pa_cons pe_int pa_nil)))))⟩ (psso_cons ⟨(ps_for PassesOwn.never rfl (pi_range1 rfl B.range (pa_cons pe_int pa_nil)) (pg_name (i := 2) scLaw.nd rfl (Or.inl rfl)) (PSso.go (psso_cons ⟨(ps_if (PW.pt (pw_and (pt_cmpR op_gt (pv 2) pe_int (nomark _)) (pw_and1 (pt_cmpR op_ge (pe_ix ix_list (pv 1) pe_int (fun _ _ => rfl)) (pe_callB call_len_seq rfl B.len b_len (pa_cons (pv 0) pa_nil)) (nomark _)))))
      (pss_one ps_break)
      pss_nil)⟩ (psso_cons ⟨(ps_set (i := 3) scLaw.nd rfl (Or.inl rfl) (pe_fn GEb OEb r4 rfl (pa_cons (pv 1) (pa_cons pe_int pa_nil))))⟩ (psso_cons ⟨(ps_for PassesOwn.never rfl (pi_range1 rfl B.range (pa_cons pe_int pa_nil)) (pg_name (i := 4) scLaw.nd rfl (Or.inl rfl)) (PSso.go (psso_cons ⟨(ps_set (i := 5) scLaw.nd rfl (Or.inl rfl) (pe_fn GSb OSb r5 rfl (pa_cons (pv 3) pa_nil)))⟩ (psso_cons ⟨(ps_if (PW.pt (pw_or (pt_not (pt_val (pe_callB call_isi_strV rfl B.isinstance b_isi (pa_cons (pv 5) (pa_cons (pe_bltn (v := .ty "str") rfl B.str b_str rfl) pa_nil))))) (pw_or1 (pt_cmpR op_ne (pv 5) (pe_fn GTx OTx r1 rfl (pa_cons (pv 3) pa_nil)) (nomark _)))))
      (pss_one (ps_ret pe_bl))
      pss_nil)⟩ (psso_cons ⟨(ps_set (i := 6) scLaw.nd rfl (Or.inl rfl) (pe_fn GRb ORb r4 rfl (pa_cons (pv 5) pa_nil)))⟩ (psso_one ⟨(ps_if (PW.pt (pw_or (pt_cmpR (op_neD hr.u64) (pv 6) (pv 3) (nomark _)) (pw_or (pt_not (pt_val (pe_callB call_isi_tuple rfl B.isinstance b_isi (pa_cons (pv 6) (pa_cons (pe_bltn (v := .ty "tuple") rfl B.tuple b_tuple rfl) pa_nil))))) (pw_or1 (pt_not (pt_val (pe_fn GAw OAw r1 rfl (pa_cons (pv 6) pa_nil))))))))
      (pss_one (ps_ret pe_bl))
      pss_nil)⟩))))))⟩ (psso_one ⟨(ps_for PassesOwn.never rfl (pi_list (pe_lst (pa_cons pe_int (pa_cons pe_int (pa_cons (pe_op op_pow pe_int pe_int) (pa_cons (pe_op op_pow pe_int pe_int) pa_nil)))))) (pg_name (i := 7) scLaw.nd rfl (Or.inl rfl)) (PSso.go (psso_cons ⟨(ps_asg (pe_fn GLo OLo r1 rfl (pa_cons (pe_fn GSc OSc r2 rfl (pa_cons (pv 1) (pa_cons (pv 7) pa_nil))) (pa_cons (pe_op op_add pe_int (pe_fn GSc OSc r2 rfl (pa_cons (pv 1) (pa_cons (pv 7) pa_nil)))) pa_nil))) (pg_tup rfl (pgs_cons (pg_name (i := 8) scLaw.nd rfl (Or.inl rfl)) (pgs_cons (pg_name (i := 9) scLaw.nd rfl (Or.inl rfl)) pgs_nil))))⟩ (psso_cons ⟨(ps_set (i := 10) scLaw.nd rfl (Or.inl rfl) (pe_op op_add pe_int (pe_fn GSc OSc r2 rfl (pa_cons (pv 1) (pa_cons pe_int pa_nil)))))⟩ (psso_cons ⟨(ps_set (i := 11) scLaw.nd rfl (Or.inl rfl) (pe_lst (pa_cons (pe_tup (pa_cons (pv 8) (pa_cons (pv 9) pa_nil))) (pa_cons (pe_tup (pa_cons (pv 8) (pa_cons pe_int pa_nil))) (pa_cons (pe_tup (pa_cons pe_int (pa_cons pe_int pa_nil))) (pa_cons (pe_tup (pa_cons (pv 9) (pa_cons pe_int pa_nil))) pa_nil))))))⟩ (psso_cons ⟨(ps_set (i := 11) scLaw.nd rfl (Or.inl rfl) (pe_op op_cat (pv 11) (pe_lst (pa_cons (pe_tup (pa_cons (pe_op op_mul (pv 10) (pv 8)) (pa_cons (pe_op op_mul (pv 10) (pv 9)) pa_nil))) (pa_cons (pe_tup (pa_cons (pe_op op_mul (pv 10) (pv 8)) (pa_cons (pv 10) pa_nil))) (pa_cons (pe_tup (pa_cons pe_int (pa_cons (pv 10) pa_nil))) pa_nil))))))⟩ (psso_one ⟨(ps_for PassesOwn.never rfl (pi_list (pv 11)) (pg_name (i := 12) scLaw.nd rfl (Or.inl rfl)) (PSso.go (psso_cons ⟨(ps_set (i := 13) scLaw.nd rfl (Or.inl rfl) (pe_op op_add_str (pe_callTy call_str_int rfl B.str b_str (pa_cons (pe_ix ix_tup (pv 12) pe_int (fun _ _ => rfl)) pa_nil)) (pe_ix ix_list (pe_lst (pa_cons (pe_op op_add_str pe_str (pe_callTy call_str_int rfl B.str b_str (pa_cons (pe_ix ix_tup (pv 12) pe_int (fun _ _ => rfl)) pa_nil))) (pa_cons pe_str pa_nil))) (pe_callTy call_int1 rfl B.int b_int (pa_cons (pe_cmpR op_eq (pe_ix ix_tup (pv 12) pe_int (fun _ _ => rfl)) pe_int (nomark _)) pa_nil)) (fun _ _ => rfl))))⟩ (psso_cons ⟨(ps_set (i := 5) scLaw.nd rfl (Or.inl rfl) (pe_fn GSf OSf r1 rfl (pa_cons (pv 12) pa_nil)))⟩ (psso_one ⟨(ps_if (PW.pt (pw_or (pt_not (pt_val (pe_callB call_isi_strV rfl B.isinstance b_isi (pa_cons (pv 5) (pa_cons (pe_bltn (v := .ty "str") rfl B.str b_str rfl) pa_nil))))) (pw_or1 (pt_cmpR op_ne (pv 5) (pv 13) (nomark _)))))
      (pss_one (ps_ret pe_bl))
      pss_nil)⟩)))))⟩)))))))⟩))))))⟩ (psso_one ⟨(ps_ret pe_bl)⟩))) ?_
    refine ⟨_, rfl, size1 (show 3 ≤ 1000 by decide), fun t ht => ?_⟩
    have hJ : Jar K (upd H t (.lst [.ref a, .int 0, .int 0])) t a ns 0 := ⟨⟨0, 0, by decide, by decide, upd_same⟩, (Same.new ht).seqL hns⟩
    generalize upd H t (.lst [.ref a, .int 0, .int 0]) = H1 at hJ ⊢
    refine ⟨5, rfl, by decide, by decide, for_range (lo := 0) (n := 5) (fun i σ H2 => (∃ v2 v3 v4 v5 v6 v7 v8 v9 v10 v11 v12 v13, σ = [some (.ref a), some (.ref t), v2, v3, v4, v5, v6, v7, v8, v9, v10, v11, v12, v13]) ∧ Jar K H2 t a ns (200 * i)) ⟨⟨none, none, none, none, none, none, none, none, none, none, none, none, rfl⟩, hJ⟩ ?_ ?_⟩
    · rintro i σ H2 hi ⟨⟨v2, v3, v4, v5, v6, v7, v8, v9, v10, v11, v12, v13, rfl⟩, J2⟩
      obtain ⟨⟨pp2, q2, hp2, hN2, ht2⟩, hns2⟩ := id J2
      refine tAnd_any (fun R hR => ⟨_, rfl, _, _, rfl, rfl, _, rfl, hR _⟩) (fun R hR => ⟨_, rfl, t, _, 1, .int pp2, rfl, rfl, SqL.of ht2, rfl, _, rfl, a, _, rfl, .inl hns2, _, _, rfl, rfl, _, rfl, hR _⟩) (fun b => ?_)
      refine ite2 (fun _ => ?_) (fun _ => ?_)
      · exact k _
      refine ⟨_, rfl, t, a, ns, 200 * i, rfl, J2, by omega, fun n ws bp H3 hb b3 J3 hbk => ?_⟩
      refine ⟨2, rfl, by decide, by decide, for_range (lo := 0) (n := 2) (fun _ σ H4 => (∃ v4 v5 v6, σ = [some (.ref a), some (.ref t), some (.int (0 + (i : Int))), some (.ref bp), v4, v5, v6, v7, v8, v9, v10, v11, v12, v13]) ∧ Same H3 H4) ⟨⟨_, _, _, rfl⟩, Same.refl _⟩ ?_ ?_⟩
      · rintro j σ H4 hj ⟨⟨v4, v5, v6, rfl⟩, s4⟩
        have bk4 := s4.den _ _ hbk
        refine ⟨_, rfl, _, n, ws, rfl, bk4, hb, fun H5 s5 => ?_⟩
        have bk5 := s5.den _ _ bk4
        refine ⟨_, rfl, _, rfl, _, rfl, ?_⟩
        refine iteF ?_
        refine ⟨_, rfl, _, rfl, _, n, ws, rfl, bk5, hb, fun H6 s6 => ⟨rfl, _, rfl, ?_⟩⟩
        rw [op_neSelf]
        refine iteF ?_
        refine ⟨_, rfl, n, ws, rfl, hb, fun p7 H7 s7 d7 => ?_⟩
        have bk7 := (s6.trans s7).den _ _ bk5
        refine ⟨_, rfl, _, rfl, bookD n ws, bookD n ws, d7, bk7, noDict_book _ _, noDict_book _ _, shaped_book _ _, shaped_book _ _, _, rfl, ?_⟩
        rw [eqv_book]
        refine iteF ?_
        refine ⟨_, rfl, _, .tup, rfl, d7.kd, _, rfl, ?_⟩
        refine iteF ?_
        refine ⟨_, rfl, _, n, ws, rfl, d7, hb, fun H8 s8 => ⟨_, rfl, ?_⟩⟩
        refine iteF ?_
        exact ⟨⟨_, _, _, rfl⟩, s4.trans (s5.trans (s6.trans (s7.trans s8)))⟩
      · rintro σ H4 ⟨⟨v4, v5, v6, rfl⟩, s4⟩
        have J4 := J3.same s4
        refine ⟨_, _, rfl, rfl, ⟨by decide, by decide, by decide⟩, _, _, rfl, rfl, ⟨by decide, by decide, by decide⟩, size1 (show 4 ≤ 1000 by decide), fun l1 hl1 => ?_⟩
        have n1t : l1 ≠ t := J4.ne hl1
        have J5 := J4.same (Same.new (o := .lst [.int 3, .int 12, (fun i j : Int => V.int (i ^ j.toNat)) 10 9, (fun i j : Int => V.int (i ^ j.toNat)) 10 59]) hl1)
        have e5 : upd H4 l1 (.lst [.int 3, .int 12, (fun i j : Int => V.int (i ^ j.toNat)) 10 9, (fun i j : Int => V.int (i ^ j.toNat)) 10 59]) l1 = some (.lst [.int 3, .int 12, (fun i j : Int => V.int (i ^ j.toNat)) 10 9, (fun i j : Int => V.int (i ^ j.toNat)) 10 59]) := upd_same
        generalize upd H4 l1 (.lst [.int 3, .int 12, (fun i j : Int => V.int (i ^ j.toNat)) 10 9, (fun i j : Int => V.int (i ^ j.toNat)) 10 59]) = H5 at J5 e5 ⊢
        replace e5 : H5 l1 = some (.lst [.int 3, .int 12, .int (10 ^ 9), .int (10 ^ 59)]) := e5
        refine ⟨l1, rfl, ⟨_, SqL.of e5⟩, for_list (K := K) (a := l1) (xs := [.int 3, .int 12, .int (10 ^ 9), .int (10 ^ 59)]) (fun j σ H6 => (∃ v5 v7 v8 v9 v10 v11 v12 v13, σ = [some (.ref a), some (.ref t), some (.int (0 + (i : Int))), some (.ref bp), v4, v5, v6, v7, v8, v9, v10, v11, v12, v13]) ∧ But t H5 H6 ∧ Jar K H6 t a ns (200 * i + 100 + 3 * j)) ⟨⟨_, _, _, _, _, _, _, _, rfl⟩, But.refl _ _, J5⟩ (fun j σ H6 _ ⟨_, b6, _⟩ => b6.seqL n1t (SqL.of e5)) ?_ ?_⟩
        · rintro j x σ H6 hx ⟨⟨v5, v7, v8, v9, v10, v11, v12, v13, rfl⟩, b6, J6⟩
          have hj4 : j < 4 := (List.getElem?_eq_some_iff.mp hx).1
          obtain ⟨m, rfl, m0, m1⟩ : ∃ m : Int, x = .int m ∧ 0 < m ∧ m < 2 ^ 200 := by
            rcases List.mem_of_getElem? hx with _ | ⟨_, hx⟩
            · exact ⟨3, rfl, by decide, by decide⟩
            rcases hx with _ | ⟨_, hx⟩
            · exact ⟨12, rfl, by decide, by decide⟩
            rcases hx with _ | ⟨_, hx⟩
            · exact ⟨10 ^ 9, rfl, by decide, by decide⟩
            rcases hx with _ | ⟨_, hx⟩
            · exact ⟨10 ^ 59, rfl, by decide +kernel, by decide +kernel⟩
            exact (List.not_mem_nil hx).elim
          have mb : m.natAbs < 2 ^ 4000 := by
            have h2 : (2 : Nat) ^ 200 ≤ 2 ^ 4000 := Nat.pow_le_pow_right (by decide) (by decide)
            omega
          refine ⟨_, rfl, _, rfl, t, a, ns, _, m, rfl, J6, by omega, m0, mb, fun ra H7 ra0 ra1 b7 J7 => ?_⟩
          refine ⟨_, rfl, _, rfl, t, a, ns, _, m, rfl, J7, by omega, m0, mb, fun rb H8 rb0 rb1 b8 J8 => ⟨_, _, rfl, rfl, ?_⟩⟩
          have p2 : (2 : Nat) ^ 200 + 1 ≤ 2 ^ 300 := by decide +kernel
          have p3 : (2 : Nat) ^ 200 + 1 ≤ 2 ^ 250 := by decide +kernel
          refine ⟨ra, 1 + rb, rfl, ra0, by omega, by omega, by omega, fun q H9 c d s9 hq c0 c1 d0 d1 => ?_⟩
          refine ⟨q, _, rfl, SqT.of hq, rfl, _, _, rfl, _, _, rfl, rfl, ?_⟩
          have J9 := J8.same s9
          refine ⟨_, rfl, t, a, ns, _, 8, rfl, J9, by omega, by decide, by decide, fun ro H10 ro0 ro1 b10 J10 => ⟨_, _, rfl, rfl, ?_⟩⟩
          have b510 := b6.trans (b7.trans (b8.trans ((But.of s9).trans b10)))
          have sc : Sml c := ⟨c0, by have : (2 : Nat) ^ 200 ≤ 2 ^ 290 := by decide +kernel
                                     omega⟩
          have sd : Sml d := ⟨d0, by have : (2 : Nat) ^ 200 + 1 ≤ 2 ^ 290 := by decide +kernel
                                     omega⟩
          have so : Sml (2 + ro) := ⟨by omega, by have : 9 < (2 : Nat) ^ 290 := by decide +kernel
                                                  omega⟩
          have s1 : Sml 1 := ⟨by decide, by decide +kernel⟩
          have s0 : Sml 0 := ⟨by decide, by decide +kernel⟩
          have soc := sml_mul (o := 2 + ro) (i := c) (by omega) (by omega) c0 (by omega)
          have sod := sml_mul (o := 2 + ro) (i := d) (by omega) (by omega) d0 (by omega)
          obtain ⟨Fr, hFr⟩ : ∃ Fr : Hp → V → Prop, Fr = fun H x => ∃ q u v, x = .ref q ∧ H q = some (.tup [.int u, .int v]) ∧ Sml u ∧ Sml v := ⟨_, rfl⟩
          have mo : ∀ {H' H'' : Hp} {x : V}, Same H' H'' → Fr H' x → Fr H'' x := fun s h => by
            rw [hFr] at h ⊢
            obtain ⟨q, u, v, h1, h2, h3⟩ := h
            exact ⟨q, u, v, h1, s _ _ h2, h3⟩
          have mk : ∀ {H' : Hp} {q : Addr} {u v : Int}, Sml u → Sml v → Fr (upd H' q (.tup [.int u, .int v])) (.ref q) := fun h1 h2 => by
            rw [hFr]
            exact ⟨_, _, _, rfl, upd_same, h1, h2⟩
          refine ⟨_, rfl, _, rfl, sz2 _ _, fun p1 h1 => ⟨_, rfl, sz2 _ _, fun p2 h2 => ⟨sz2 _ _, fun p3 h3 => ⟨_, rfl, sz2 _ _, fun p4 h4 => ⟨size1 (show 4 ≤ 1000 by decide), fun l2 hl2 => ?_⟩⟩⟩⟩⟩
          have t1 := Same.new (o := .tup [.int c, .int d]) h1
          have t2 := Same.new (o := .tup [.int c, .int 1]) h2
          have t3 := Same.new (o := .tup [.int 0, .int 1]) h3
          have t4 := Same.new (o := .tup [.int d, .int 1]) h4
          have t5 := Same.new (o := .lst [.ref p1, .ref p2, .ref p3, .ref p4]) hl2
          have F4 : ∀ x ∈ [V.ref p1, .ref p2, .ref p3, .ref p4], Fr (upd (upd (upd (upd (upd H10 p1 (.tup [.int c, .int d])) p2 (.tup [.int c, .int 1])) p3 (.tup [.int 0, .int 1])) p4 (.tup [.int d, .int 1])) l2 (.lst [.ref p1, .ref p2, .ref p3, .ref p4])) x := fun x hx => by
            simp only [List.mem_cons, List.not_mem_nil, or_false] at hx
            rcases hx with rfl | rfl | rfl | rfl
            · exact mo (t2.trans (t3.trans (t4.trans t5))) (mk sc sd)
            · exact mo (t3.trans (t4.trans t5)) (mk sc s1)
            · exact mo (t4.trans t5) (mk s0 s1)
            · exact mo t5 (mk sd s1)
          have s14 := t1.trans (t2.trans (t3.trans (t4.trans t5)))
          have e14 : upd (upd (upd (upd (upd H10 p1 (.tup [.int c, .int d])) p2 (.tup [.int c, .int 1])) p3 (.tup [.int 0, .int 1])) p4 (.tup [.int d, .int 1])) l2 (.lst [.ref p1, .ref p2, .ref p3, .ref p4]) l2 = some (.lst [.ref p1, .ref p2, .ref p3, .ref p4]) := upd_same
          generalize upd (upd (upd (upd (upd H10 p1 (.tup [.int c, .int d])) p2 (.tup [.int c, .int 1])) p3 (.tup [.int 0, .int 1])) p4 (.tup [.int d, .int 1])) l2 (.lst [.ref p1, .ref p2, .ref p3, .ref p4]) = H14 at F4 s14 e14 ⊢
          have cm : ∀ z : Int, CMul (2 + ro) z := fun z => .inl ⟨by omega, by omega⟩
          refine ⟨_, rfl, _, rfl, _, rfl, _, _, rfl, rfl, cm _, _, rfl, _, rfl, _, _, rfl, rfl, cm _, sz2 _ _, fun p5 h5 => ⟨_, rfl, _, rfl, _, _, rfl, rfl, cm _, _, rfl, sz2 _ _, fun p6 h6 => ⟨_, rfl, sz2 _ _, fun p7 h7 => ⟨size1 (show 3 ≤ 1000 by decide), fun l3 hl3 => ?_⟩⟩⟩⟩
          have t6 := Same.new (o := .tup [.int ((2 + ro) * c), .int ((2 + ro) * d)]) h5
          have t7 := Same.new (o := .tup [.int ((2 + ro) * c), .int (2 + ro)]) h6
          have t8 := Same.new (o := .tup [.int 0, .int (2 + ro)]) h7
          have t9 := Same.new (o := .lst [.ref p5, .ref p6, .ref p7]) hl3
          have s18 := t6.trans (t7.trans (t8.trans t9))
          refine ⟨l2, l3, _, _, rfl, rfl, s18 _ _ e14, upd_same, size1 (show 7 ≤ 1000 by decide), fun l4 hl4 => ?_⟩
          have t10 := Same.new (o := .lst ([.ref p1, .ref p2, .ref p3, .ref p4] ++ [.ref p5, .ref p6, .ref p7])) hl4
          have F7 : ∀ x ∈ ([V.ref p1, .ref p2, .ref p3, .ref p4] ++ [.ref p5, .ref p6, .ref p7]), Fr (upd (upd (upd (upd (upd H14 p5 (.tup [.int ((2 + ro) * c), .int ((2 + ro) * d)])) p6 (.tup [.int ((2 + ro) * c), .int (2 + ro)])) p7 (.tup [.int 0, .int (2 + ro)])) l3 (.lst [.ref p5, .ref p6, .ref p7])) l4 (.lst ([.ref p1, .ref p2, .ref p3, .ref p4] ++ [.ref p5, .ref p6, .ref p7]))) x := fun x hx => by
            rcases List.mem_append.mp hx with hx | hx
            · exact mo (s18.trans t10) (F4 x hx)
            · simp only [List.mem_cons, List.not_mem_nil, or_false] at hx
              rcases hx with rfl | rfl | rfl
              · exact mo (t7.trans (t8.trans (t9.trans t10))) (mk soc sod)
              · exact mo (t8.trans (t9.trans t10)) (mk soc so)
              · exact mo (t9.trans t10) (mk s0 so)
          have s19 := s14.trans (s18.trans t10)
          have e19 : upd (upd (upd (upd (upd H14 p5 (.tup [.int ((2 + ro) * c), .int ((2 + ro) * d)])) p6 (.tup [.int ((2 + ro) * c), .int (2 + ro)])) p7 (.tup [.int 0, .int (2 + ro)])) l3 (.lst [.ref p5, .ref p6, .ref p7])) l4 (.lst ([.ref p1, .ref p2, .ref p3, .ref p4] ++ [.ref p5, .ref p6, .ref p7])) l4 = some (.lst ([.ref p1, .ref p2, .ref p3, .ref p4] ++ [.ref p5, .ref p6, .ref p7])) := upd_same
          generalize upd (upd (upd (upd (upd H14 p5 (.tup [.int ((2 + ro) * c), .int ((2 + ro) * d)])) p6 (.tup [.int ((2 + ro) * c), .int (2 + ro)])) p7 (.tup [.int 0, .int (2 + ro)])) l3 (.lst [.ref p5, .ref p6, .ref p7])) l4 (.lst ([.ref p1, .ref p2, .ref p3, .ref p4] ++ [.ref p5, .ref p6, .ref p7])) = H19 at F7 s19 e19 ⊢
          generalize ([V.ref p1, .ref p2, .ref p3, .ref p4] ++ [.ref p5, .ref p6, .ref p7]) = xs7 at F7 e19
          refine ⟨_, rfl, l4, rfl, ⟨_, SqL.of e19⟩, for_list (K := K) (a := l4) (xs := xs7) (fun _ σ H20 => (∃ v5 v12 v13, σ = [some (.ref a), some (.ref t), some (.int (0 + (i : Int))), some (.ref bp), v4, v5, v6, some (.int m), some (.int c), some (.int d), some (.int (2 + ro)), some (.ref l4), v12, v13]) ∧ Same H19 H20) ⟨⟨_, _, _, rfl⟩, Same.refl _⟩ (fun _ σ H20 _ ⟨_, s20⟩ => s20.seqL (SqL.of e19)) ?_ ?_⟩
          · rintro j2 x σ H20 hx ⟨⟨v5', v12', v13', rfl⟩, s20⟩
            have hf := mo s20 (F7 x (List.mem_of_getElem? hx))
            rw [hFr] at hf
            obtain ⟨qf, u, v, rfl, hqf, su, sv⟩ := hf
            have lu := su.log
            have lv := sv.log
            have nu := numS_len2 lu
            have nv := numS_len2 lv
            have l9 : ∀ {z : Nat}, z < 300 → z < 1920 := fun h => Nat.lt_trans h (by decide)
            refine ⟨_, rfl, qf, _, 0, .int u, rfl, rfl, SqT.of hqf, rfl, u, rfl, l9 lu, ?_⟩
            refine ⟨_, rfl, qf, _, 1, .int v, rfl, rfl, SqT.of hqf, rfl, v, rfl, l9 lv, "/", numS v, rfl, rfl, size1 (show 1 + (numS v).length ≤ 1000 by omega), sz2 _ _, fun l5 hl5 => ?_⟩
            have s21 := Same.new (o := .lst [.str ("/" ++ numS v), .str ""]) hl5
            have e21 : upd H20 l5 (.lst [.str ("/" ++ numS v), .str ""]) l5 = some (.lst [.str ("/" ++ numS v), .str ""]) := upd_same
            have q21 := s21 _ _ hqf
            generalize upd H20 l5 (.lst [.str ("/" ++ numS v), .str ""]) = H21 at s21 e21 q21 ⊢
            refine ⟨_, rfl, qf, _, 1, .int v, rfl, rfl, SqT.of q21, rfl, rfl, .inr ⟨_, rfl, ?_⟩⟩
            by_cases hv : v = 1
            · subst hv
              rw [show decide (V.int 1 = V.int 1) = true from rfl]
              refine ⟨l5, _, 1, .str "", rfl, rfl, SqL.of e21, rfl, numS u, "", rfl, rfl, size1 (show (numS u).length + 0 ≤ 1000 by omega), ?_⟩
              refine ⟨_, rfl, qf, u, 1, rfl, SqT.of q21, lu, lv, ?_⟩
              refine ⟨_, rfl, _, rfl, _, rfl, ?_⟩
              refine iteF ?_
              refine ⟨_, rfl, _, rfl, rfl, _, rfl, ?_⟩
              rw [show (!decide (V.str (fracT u 1) = V.str (numS u ++ ""))) = false by rw [app_emp]; unfold fracT; rw [if_pos rfl]; simp]
              refine iteF ?_
              exact ⟨⟨_, _, _, rfl⟩, s20.trans s21⟩
            · rw [show decide (V.int v = V.int 1) = false from decide_eq_false fun z => hv (by injection z)]
              refine ⟨l5, _, 0, .str ("/" ++ numS v), rfl, rfl, SqL.of e21, rfl, numS u, _, rfl, rfl, ?_, ?_⟩
              · refine size1 ?_
                show (numS u).length + ("/" ++ numS v : Str).length ≤ 1000
                rw [app_len]
                show _ + (1 + _) ≤ _
                omega
              refine ⟨_, rfl, qf, u, v, rfl, SqT.of q21, lu, lv, ?_⟩
              refine ⟨_, rfl, _, rfl, _, rfl, ?_⟩
              refine iteF ?_
              refine ⟨_, rfl, _, rfl, rfl, _, rfl, ?_⟩
              rw [show (!decide (V.str (fracT u v) = V.str (numS u ++ ("/" ++ numS v)))) = false by rw [app_app]; unfold fracT; rw [if_neg hv]; simp]
              refine iteF ?_
              exact ⟨⟨_, _, _, rfl⟩, s20.trans s21⟩
          · rintro σ H20 ⟨⟨v5', v12', v13', rfl⟩, s20⟩
            exact ⟨⟨_, _, _, _, _, _, _, _, rfl⟩, b510.trans (But.of (s19.trans s20)), (J10.same (s19.trans s20)).more (by omega)⟩
        · rintro σ H6 ⟨⟨v5, v7, v8, v9, v10, v11, v12, v13, rfl⟩, b6, J6⟩
          exact ⟨⟨_, _, _, _, _, _, _, _, _, _, _, _, rfl⟩, J6.more (by show 200 * i + 100 + 3 * 4 ≤ _; omega)⟩
    · rintro σ H2 _
      exact k _
end
end Ab
set_option Elab.async false
set_option linter.all false
set_option maxRecDepth 100000
namespace Ab
open PySem L2 PyProof.Rows
theorem fn_mk {K : PySem.W.Frag} {h : Heap} {mg : Str → Option Value} (X : K.In h) (G : h.Ns mainGlobals mg) {x : Str} {st : Stmt} {ps : List Str} {f : Addr} {oc : Value} {od an : Option Addr} {osl : Array (Option Value)} {kV doc pm cdv ct : Value}
    (hb : ∀ (kV doc pm : Value) (an : Option Addr) (cdv ct : Value) (us : List Value), us.length = ps.length → bindArgs (PySem.W.fnOf x x (defArgs st) (defBody st) (defScope st) .none kV doc pm an cdv ct) ⟨us, []⟩ = pure (ps.zip us))
    (a : PySem.W.nsIn K mainGlobals x = some (some (.ref f))) (l : K.lookup f = some ⟨oc, od, .func (PySem.W.fnOf x x (defArgs st) (defBody st) (defScope st) .none kV doc pm an cdv ct), osl⟩) (c : PySem.W.codeIn K cdv x = true) (k : PySem.W.keepIn K (.ref f) = true) :
    ∃ f fd, Fn K mg x st ps f fd := by
  have F := fun_mk (st := st) l c k
  exact ⟨f, _, F, PySem.W.mg_of X G a, k, F.binds hb⟩
theorem bl_mk {K : PySem.W.Frag} {h : Heap} {mg : Str → Option Value} (X : K.In h) (G : h.Ns mainGlobals mg) {t6 t12 t7 t8 : Tok}
    (z0 : PySem.W.nsIn K mainGlobals "isinstance" = some none)
    (z1 : PySem.W.nsIn K mainGlobals "int" = some none)
    (z2 : PySem.W.nsIn K mainGlobals "bool" = some none)
    (z3 : PySem.W.nsIn K mainGlobals "tuple" = some none)
    (z4 : PySem.W.nsIn K mainGlobals "list" = some none)
    (z5 : PySem.W.nsIn K mainGlobals "len" = some none)
    (z6 : PySem.W.nsIn K mainGlobals "all" = some none)
    (z7 : PySem.W.nsIn K mainGlobals "zip" = some none)
    (z8 : PySem.W.nsIn K mainGlobals "range" = some none)
    (z9 : PySem.W.nsIn K mainGlobals "sorted" = some none)
    (z10 : PySem.W.nsIn K mainGlobals "set" = some none)
    (z11 : PySem.W.nsIn K mainGlobals "sum" = some none)
    (z12 : PySem.W.nsIn K mainGlobals "repr" = some none)
    (z13 : PySem.W.nsIn K mainGlobals "str" = some none)
    (zA : PySem.W.nsIn K mainGlobals "MOST_HANDS" = some (some (.int 6 t6))) (zB : PySem.W.nsIn K mainGlobals "MOST_WORKS" = some (some (.int 12 t12))) (zC : PySem.W.nsIn K mainGlobals "FIGURES" = some (some (.str "0123456789" t7))) (zD : PySem.W.nsIn K mainGlobals "MOST_FIGURES" = some (some (.int 6 t8))) : Bl mg :=
  ⟨PySem.W.mg_none_of X G z0, PySem.W.mg_none_of X G z1, PySem.W.mg_none_of X G z2, PySem.W.mg_none_of X G z3, PySem.W.mg_none_of X G z4, PySem.W.mg_none_of X G z5, PySem.W.mg_none_of X G z6, PySem.W.mg_none_of X G z7, PySem.W.mg_none_of X G z8, PySem.W.mg_none_of X G z9, PySem.W.mg_none_of X G z10, PySem.W.mg_none_of X G z11, PySem.W.mg_none_of X G z12, PySem.W.mg_none_of X G z13, ⟨_, PySem.W.mg_of X G zA⟩, ⟨_, PySem.W.mg_of X G zB⟩, ⟨_, PySem.W.mg_of X G zC⟩, ⟨_, PySem.W.mg_of X G zD⟩⟩
theorem law_all {l : PySem.W.OpenLaw} {w : World} {K : PySem.W.Frag} {mg : Str → Option Value} {fa : Addr} (hfa : mg "law" = some (.ref fa)) (B : Bl mg)
    (hW : ∃ f fd, Fn K mg "is_whole" sWhole ["thing"] f fd)
    (hH : ∃ f fd, Fn K mg "are_hands" sHands ["thing"] f fd)
    (hKw : ∃ f fd, Fn K mg "is_work" sWorkP ["hands", "thing"] f fd)
    (hBP : ∃ f fd, Fn K mg "is_book" sBookP ["thing"] f fd)
    (hNB : ∃ f fd, Fn K mg "need_book" sNeedB ["book"] f fd)
    (hNM : ∃ f fd, Fn K mg "is_number" sNumber ["word"] f fd)
    (hSB : ∃ f fd, Fn K mg "show_book" sShowB ["book"] f fd)
    (hRB : ∃ f fd, Fn K mg "read_book" sReadB ["text"] f fd)
    (hSF : ∃ f fd, Fn K mg "show_fraction" sShowF ["fraction"] f fd)
    (hWH : ∃ f fd, Fn K mg "_law_e_whirl" sWhirl ["cell", "at"] f fd)
    (hSC : ∃ f fd, Fn K mg "_law_e_scoop" sScoop ["jar", "many"] f fd)
    (hAB : ∃ f fd, Fn K mg "_law_e_able" sAble ["jar", "hands"] f fd)
    (hEB : ∃ f fd, Fn K mg "_law_e_book" sEBook ["jar", "most"] f fd)
    (hTX : ∃ f fd, Fn K mg "_law_e_text" sText ["book"] f fd)
    (hLO : ∃ f fd, Fn K mg "_law_e_low" sLow ["top", "bottom"] f fd)
    (hAW : ∃ f fd, Fn K mg "_law_e_all_whole" sAllW ["book"] f fd)
    (hLW : ∃ f fd, Fn K mg "law" sLaw ["script"] f fd)
    : ∃ fd : FuncData, (∀ (s : Shared) (v : Value), BindsTo s fd ⟨[v], []⟩ [("script", v)]) ∧ ∀ base : Heap, K.In base → base.Ns mainGlobals mg → FnOk l.prog w K mg base CX0 6 fa fd ["script"] (spLaw K) := by
  obtain ⟨fW, dW, W⟩ := hW
  obtain ⟨fH, dH, H⟩ := hH
  obtain ⟨fKw, dKw, Kw⟩ := hKw
  obtain ⟨fBP, dBP, BP⟩ := hBP
  obtain ⟨fNB, dNB, NB⟩ := hNB
  obtain ⟨fNM, dNM, NM⟩ := hNM
  obtain ⟨fSB, dSB, SB⟩ := hSB
  obtain ⟨fRB, dRB, RB⟩ := hRB
  obtain ⟨fSF, dSF, SF⟩ := hSF
  obtain ⟨fWH, dWH, WH⟩ := hWH
  obtain ⟨fSC, dSC, SC⟩ := hSC
  obtain ⟨fAB, dAB, AB⟩ := hAB
  obtain ⟨fEB, dEB, EB⟩ := hEB
  obtain ⟨fTX, dTX, TX⟩ := hTX
  obtain ⟨fLO, dLO, LO⟩ := hLO
  obtain ⟨fAW, dAW, AW⟩ := hAW
  obtain ⟨fLW, dLW, LW⟩ := hLW
  have e := hfa.symm.trans LW.mgx
  cases e
  have R : Pr K mg fW fH fKw fBP fNB dW dH dKw dBP dNB := ⟨W, H, Kw, BP, NB⟩
  refine ⟨dLW, fun s v => ?_, fun base _ _ => ?_⟩
  · obtain ⟨oc, od, kV, doc, pm, an, cdv, ct, osl, rfl, lk, hcd⟩ := LW.fn.ex
    exact .of_eq rfl
  · have OS : FnOk l.prog w K mg base CX0 2 fSC dSC ["jar", "many"] (spScoop K) := ok_scoop SC B WH
    exact ok_law LW B EB (ok_ebook EB B SC OS AB (ok_able AB B SC OS)) SB (ok_showB SB B R) RB (ok_readB RB B R NM) TX (ok_text TX B) LO (ok_low LO B) AW (ok_allW AW B) SC OS SF (ok_showF SF B)
theorem walk {l : PySem.W.OpenLaw} {q : Program} {loose : List Str} {XP : (Str → Option Value) → Heap → Prop} {YP : World → Heap → Prop} {d : DefRec} {K : Params → PySem.W.Frag} (hn : l.most = some 63) (hdf : d.params.defaults = []) (hq : importsNone q = true)
    (hY : ∀ (w : World) (h : Heap), YP w h → (K w.params).In h)
    (F : ∀ (w : World) (mg : Str → Option Value) (fa : Addr) (h : Heap), (K w.params).In h → h.Ns mainGlobals mg → mg d.name = some (.ref fa) →
      ∃ fd : FuncData, (∀ (s : Shared) (u : Value), BindsTo s fd ⟨[u], []⟩ [("script", u)]) ∧ ∀ base : Heap, (K w.params).In base → base.Ns mainGlobals mg → FnOk l.prog w (K w.params) mg base CX0 6 fa fd ["script"] (spLaw (K w.params))) :
    PySem.W.WalkO q loose XP YP l.row.toRowW d [] (fun f vs => PySem.call f vs) :=
  L2.walk_of (n := 63) (k := 6) (x := "script") (CX := fun _ => CX0) (sp := fun w => spLaw (K w.params)) hn (by decide) hdf ⟨rfl, by decide, by decide, rfl⟩ hq hY F (fun _ _ a ns _ _ hS => ⟨a, ns, rfl, hS, fun _ => rfl⟩) fun _ _ _ _ _ z => z
end Ab
open PySem PySem.W PyProof.Rows
set_option maxRecDepth 100000 in
set_option maxHeartbeats 0 in
theorem PySem.Challenge.cw_ablehands_k50_books_and_fractions_writte_holds : PySem.Challenge.rw_ablehands_k50_books_and_fractions_writte.Holds := by
  w_on; o_law; k_head; (case hw => w_witness2)
  k_fill
  refine Ab.walk (l := PySem.Challenge.rw_ablehands_k50_books_and_fractions_writte) rfl rfl (by decide +kernel) (fun w h Y => PySem.W.kIn_of Y) ?F
  case F =>
    intro w mg fa h KX G hmg
    refine' Ab.law_all hmg ?B ?hW ?hH ?hKw ?hBP ?hNB ?hNM ?hSB ?hRB ?hSF ?hWH ?hSC ?hAB ?hEB ?hTX ?hLO ?hAW ?hLW
    case B =>
      refine' Ab.bl_mk KX G ?z0 ?z1 ?z2 ?z3 ?z4 ?z5 ?z6 ?z7 ?z8 ?z9 ?z10 ?z11 ?z12 ?z13 ?zA ?zB ?zC ?zD
      (case z0 => k_is)
      (case z1 => k_is)
      (case z2 => k_is)
      (case z3 => k_is)
      (case z4 => k_is)
      (case z5 => k_is)
      (case z6 => k_is)
      (case z7 => k_is)
      (case z8 => k_is)
      (case z9 => k_is)
      (case z10 => k_is)
      (case z11 => k_is)
      (case z12 => k_is)
      (case z13 => k_is)
      (case zA => k_is)
      (case zB => k_is)
      (case zC => k_is)
      (case zD => k_is)
    case hW =>
      refine' Ab.fn_mk KX G (fun _ _ _ _ _ _ us hl => match us, hl with | [_], _ => rfl) ?a ?l ?c ?k
      (case a => k_is); (case l => k_is); (case c => k_is); (case k => k_is)
    case hH =>
      refine' Ab.fn_mk KX G (fun _ _ _ _ _ _ us hl => match us, hl with | [_], _ => rfl) ?a ?l ?c ?k
      (case a => k_is); (case l => k_is); (case c => k_is); (case k => k_is)
    case hKw =>
      refine' Ab.fn_mk KX G (fun _ _ _ _ _ _ us hl => match us, hl with | [_, _], _ => rfl) ?a ?l ?c ?k
      (case a => k_is); (case l => k_is); (case c => k_is); (case k => k_is)
    case hBP =>
      refine' Ab.fn_mk KX G (fun _ _ _ _ _ _ us hl => match us, hl with | [_], _ => rfl) ?a ?l ?c ?k
      (case a => k_is); (case l => k_is); (case c => k_is); (case k => k_is)
    case hNB =>
      refine' Ab.fn_mk KX G (fun _ _ _ _ _ _ us hl => match us, hl with | [_], _ => rfl) ?a ?l ?c ?k
      (case a => k_is); (case l => k_is); (case c => k_is); (case k => k_is)
    case hNM =>
      refine' Ab.fn_mk KX G (fun _ _ _ _ _ _ us hl => match us, hl with | [_], _ => rfl) ?a ?l ?c ?k
      (case a => k_is); (case l => k_is); (case c => k_is); (case k => k_is)
    case hSB =>
      refine' Ab.fn_mk KX G (fun _ _ _ _ _ _ us hl => match us, hl with | [_], _ => rfl) ?a ?l ?c ?k
      (case a => k_is); (case l => k_is); (case c => k_is); (case k => k_is)
    case hRB =>
      refine' Ab.fn_mk KX G (fun _ _ _ _ _ _ us hl => match us, hl with | [_], _ => rfl) ?a ?l ?c ?k
      (case a => k_is); (case l => k_is); (case c => k_is); (case k => k_is)
    case hSF =>
      refine' Ab.fn_mk KX G (fun _ _ _ _ _ _ us hl => match us, hl with | [_], _ => rfl) ?a ?l ?c ?k
      (case a => k_is); (case l => k_is); (case c => k_is); (case k => k_is)
    case hWH =>
      refine' Ab.fn_mk KX G (fun _ _ _ _ _ _ us hl => match us, hl with | [_, _], _ => rfl) ?a ?l ?c ?k
      (case a => k_is); (case l => k_is); (case c => k_is); (case k => k_is)
    case hSC =>
      refine' Ab.fn_mk KX G (fun _ _ _ _ _ _ us hl => match us, hl with | [_, _], _ => rfl) ?a ?l ?c ?k
      (case a => k_is); (case l => k_is); (case c => k_is); (case k => k_is)
    case hAB =>
      refine' Ab.fn_mk KX G (fun _ _ _ _ _ _ us hl => match us, hl with | [_, _], _ => rfl) ?a ?l ?c ?k
      (case a => k_is); (case l => k_is); (case c => k_is); (case k => k_is)
    case hEB =>
      refine' Ab.fn_mk KX G (fun _ _ _ _ _ _ us hl => match us, hl with | [_, _], _ => rfl) ?a ?l ?c ?k
      (case a => k_is); (case l => k_is); (case c => k_is); (case k => k_is)
    case hTX =>
      refine' Ab.fn_mk KX G (fun _ _ _ _ _ _ us hl => match us, hl with | [_], _ => rfl) ?a ?l ?c ?k
      (case a => k_is); (case l => k_is); (case c => k_is); (case k => k_is)
    case hLO =>
      refine' Ab.fn_mk KX G (fun _ _ _ _ _ _ us hl => match us, hl with | [_, _], _ => rfl) ?a ?l ?c ?k
      (case a => k_is); (case l => k_is); (case c => k_is); (case k => k_is)
    case hAW =>
      refine' Ab.fn_mk KX G (fun _ _ _ _ _ _ us hl => match us, hl with | [_], _ => rfl) ?a ?l ?c ?k
      (case a => k_is); (case l => k_is); (case c => k_is); (case k => k_is)
    case hLW =>
      refine' Ab.fn_mk KX G (fun _ _ _ _ _ _ us hl => match us, hl with | [_], _ => rfl) ?a ?l ?c ?k
      (case a => k_is); (case l => k_is); (case c => k_is); (case k => k_is)

