import PyProof.Rows.All
import Wide.All
import OpenK.AllK
import Wide.FinOn
import PyProof.EqAt
import PyProof.EqKinds
import PyProof.TupleCall
import Lean
import PySem.Challenge.RW_ablehands_k17_rooms_and_bars_looked_at
set_option Elab.async false
set_option linter.all false
set_option maxRecDepth 100000
namespace L2
open PySem PySem.Spec PyProof.Rows

abbrev Key := Sum Int Str
def keyIs : Key → Value → Bool
  | .inl k, v => Value.isInt k v
  | .inr x, v => Value.isStrOf x v
def keyH (w : World) : Key → Int
  | .inl k => hashInt k
  | .inr x => hashStr w x
theorem keyIs_shape : ∀ {k : Key} {v : Value}, keyIs k v = true → (∃ i t, k = Sum.inl i ∧ v = Value.int i t) ∨ (∃ x t, k = Sum.inr x ∧ v = Value.str x t)
  | .inl i, v, h => by
    obtain ⟨t, e⟩ := Value.isInt_shape (k := i) (v := v) h
    exact .inl ⟨i, t, rfl, e⟩
  | .inr x, v, h => by
    obtain ⟨t, e⟩ := Value.isStrOf_shape (x := x) (v := v) h
    exact .inr ⟨x, t, rfl, e⟩
theorem key_ll (a b : Int) : decide ((Sum.inl a : Key) = Sum.inl b) = (a == b) := by
  by_cases e : a = b
  · subst e; simp
  · have h : ¬ (Sum.inl a : Key) = Sum.inl b := fun q => e (Sum.inl.inj q)
    rw [decide_eq_false h]
    exact (beq_eq_false_iff_ne.mpr e).symm
theorem key_rr (a b : Str) : decide ((Sum.inr a : Key) = Sum.inr b) = decide (a = b) := by
  by_cases e : a = b
  · subst e; simp
  · have h : ¬ (Sum.inr a : Key) = Sum.inr b := fun q => e (Sum.inr.inj q)
    rw [decide_eq_false h, decide_eq_false e]
theorem key_lr (a : Int) (b : Str) : decide ((Sum.inl a : Key) = Sum.inr b) = false := decide_eq_false (fun q => nomatch q)
theorem key_rl (a : Str) (b : Int) : decide ((Sum.inr a : Key) = Sum.inl b) = false := decide_eq_false (fun q => nomatch q)

def mixKind (prog : Program) (w : World) : PySem.KeyKind prog w Key where
  is := keyIs
  hash := keyH w
  inj := fun v a b ha hb => by
    rcases keyIs_shape ha with ⟨i, t, rfl, rfl⟩ | ⟨x, t, rfl, rfl⟩
    · rcases keyIs_shape hb with ⟨j, u, rfl, e⟩ | ⟨y, u, rfl, e⟩
      · injection e with e1 _; rw [e1]
      · exact nomatch e
    · rcases keyIs_shape hb with ⟨j, u, rfl, e⟩ | ⟨y, u, rfl, e⟩
      · exact nomatch e
      · injection e with e1 _; rw [e1]
  byValue := fun k v h => by
    rcases keyIs_shape h with ⟨i, t, rfl, rfl⟩ | ⟨x, t, rfl, rfl⟩ <;> rfl
  pyHash := fun hv h => by
    rcases keyIs_shape hv with ⟨i, t, rfl, rfl⟩ | ⟨x, t, rfl, rfl⟩
    · exact wpAny_pyHash_int h
    · exact wpAny_pyHash_str h
  eqBool := fun hu hv h => by
    rcases keyIs_shape hu with ⟨i, t, rfl, rfl⟩ | ⟨x, t, rfl, rfl⟩
    · rcases keyIs_shape hv with ⟨j, u, rfl, rfl⟩ | ⟨y, u, rfl, rfl⟩
      · rw [key_ll] at h; exact wpAny_eqBool_int h
      · rw [key_lr] at h; exact SeqAt.EqAt.int_str i t y u _ _ _ _ h
    · rcases keyIs_shape hv with ⟨j, u, rfl, rfl⟩ | ⟨y, u, rfl, rfl⟩
      · rw [key_rl] at h; exact SeqAt.EqAt.str_int x t j u _ _ _ _ h
      · rw [key_rr] at h; exact wpAny_eqBool_str h
  «strs» := fun k x t v h => by
    rcases keyIs_shape h with ⟨i, u, rfl, e⟩ | ⟨y, u, rfl, e⟩
    · exact nomatch e
    · injection e with e1 _
      subst e1
      cases v <;> rfl

end L2

namespace L2
open PySem PySem.Spec PyProof.Rows

inductive V where
  | non | bl (b : Bool) | int (i : Int) | str (x : Str) | byt (b : Array UInt8) | flt (b : UInt64) | ref (a : Addr) | ty (n : String)
  deriving DecidableEq

def RelV : V → Value → Prop
  | .non, u => u = Value.none
  | .bl b, u => u = Value.bool b
  | .int i, u => ∃ t, u = Value.int i t
  | .str x, u => ∃ t, u = Value.str x t
  | .byt b, u => ∃ t, u = Value.bytes b t
  | .flt b, u => ∃ t, u = Value.float b t
  | .ref a, u => u = Value.ref a
  | .ty n, u => u = Value.type n

abbrev Vals : List V → List Value → Prop := Paired RelV
theorem Vals.length {xs : List V} {us : List Value} (r : Vals xs us) : xs.length = us.length := Paired.length r
theorem Vals.get : ∀ {xs : List V} {us : List Value} {i : Nat} {x : V}, Vals xs us → xs[i]? = some x → ∃ u, us[i]? = some u ∧ RelV x u
  | _, _, _, _, .nil, e => by simp at e
  | _, _, 0, _, .cons r _, e => by simp at e; subst e; exact ⟨_, rfl, r⟩
  | _, _, i + 1, x, .cons _ t, e => by
    obtain ⟨u, h1, h2⟩ := Vals.get (i := i) (x := x) t (by simpa using e)
    exact ⟨u, by simpa using h1, h2⟩
theorem Vals.set {x : V} {u : Value} (r : RelV x u) : ∀ {xs : List V} {us : List Value} (i : Nat), Vals xs us → Vals (xs.set i x) (us.set i u)
  | _, _, _, .nil => .nil
  | _, _, 0, .cons _ t => .cons r t
  | _, _, i + 1, .cons q t => .cons q (Vals.set r i t)
theorem Vals.append : ∀ {xs ys : List V} {us ws : List Value}, Vals xs us → Vals ys ws → Vals (xs ++ ys) (us ++ ws)
  | _, _, _, _, .nil, s => s
  | _, _, _, _, .cons r t, s => .cons r (Vals.append t s)
theorem Vals.take : ∀ {xs : List V} {us : List Value} (n : Nat), Vals xs us → Vals (xs.take n) (us.take n)
  | _, _, 0, _ => .nil
  | _, _, _ + 1, .nil => .nil
  | _, _, n + 1, .cons r t => .cons r (Vals.take n t)
theorem Vals.drop : ∀ {xs : List V} {us : List Value} (n : Nat), Vals xs us → Vals (xs.drop n) (us.drop n)
  | _, _, 0, r => r
  | _, _, _ + 1, .nil => .nil
  | _, _, n + 1, .cons _ t => Vals.drop n t
def RelO : Option V → Option Value → Prop
  | some v, some u => RelV v u
  | none, none => True
  | _, _ => False
def KV {κ : Type} : List (κ × V) → List (κ × Value) → Prop := Paired fun (p : κ × V) (q : κ × Value) => p.1 = q.1 ∧ RelV p.2 q.2

def kV : Key → V
  | .inl i => .int i
  | .inr x => .str x

inductive HO where
  /-- a list -/
  | lst (xs : List V)
  /-- a tuple (never changes) -/
  | tup (xs : List V)
  /-- a dict whose keys are ints and texts; one whose keys are tuples of ints and texts (the empty one is both) -/
  | dK (kvs : List (Key × V)) | dT (kvs : List (List Key × V))
  /-- a set of ints: its members, its size -/
  | set (S : Int → Bool) (n : Nat)
  /-- an instance of the class at C, its dict at dx, its attributes -/
  | ins (C dx : Addr) (fs : List (Str × V))
  /-- the dict of the instance at x -/
  | own (x : Addr)
  /-- the dict of an exception -/
  | xd (fs : List (Str × V))
  /-- a bound method, f of x -/
  | met (f x : Addr)
  /-- a range object lo, lo + 1, .. below hi -/
  | rng (lo hi : Int)
  /-- a thing that is known to the object (the script; a dict while a loop walks it): read, never written while it is so -/
  | frz (o : Obj) (u : HO)
  /-- a code object's table -/
  | tbl (ps : Array Value)
  /-- a code object's table, all of whose codes have the name q; they are tracked as its own -/
  | tab (q : Str)
  /-- any other thing, by what is true of its one object (a def of one's own: SetO a S n := HO.ext fun h => ..) -/
  | ext (φ : Heap → Prop)

abbrev Hp := Addr → Option HO
def upd (H : Hp) (a : Addr) (o : HO) : Hp := fun b => if b = a then some o else H b
theorem upd_same {H : Hp} {a : Addr} {o : HO} : upd H a o a = some o := by unfold upd; rw [if_pos rfl]
theorem upd_ne {H : Hp} {a b : Addr} {o : HO} (h : b ≠ a) : upd H a o b = H b := by unfold upd; rw [if_neg h]
theorem ne_of_none {H : Hp} {a b : Addr} {o : HO} (h : H a = some o) (h' : H b = none) : a ≠ b := by
  intro e; subst e; rw [h] at h'; cases h'

section
variable (P : Program) (w : World)
def ObjOk (H : Hp) (h : Heap) (a : Addr) : HO → Prop
  | .lst xs => xs.length ≤ sizeLine ∧ ∃ (its : List Value) (n : Nat), Vals xs its ∧ h.get? a = some { cls := .type "list", data := .seq its.toArray n }
  | .tup xs => xs.length ≤ sizeLine ∧ ∃ (its : List Value) (n : Nat), Vals xs its ∧ h.get? a = some { cls := .type "tuple", data := .seq its.toArray n }
  | .dK kvs => kvs.length ≤ sizeLine ∧ (a == sysModules) = false ∧ ∃ vs, KV kvs vs ∧ h.DictOf (mixKind P w) a vs
  | .dT kvs => kvs.length ≤ sizeLine ∧ (a == sysModules) = false ∧ ∃ xs : List (List Key × Addr × Value),
      Paired (fun (p : List Key × V) (q : List Key × Addr × Value) => p.1 = q.1 ∧ H q.2.1 = some (.tup (p.1.map kV)) ∧ RelV p.2 q.2.2) kvs xs ∧
      ∃ o es ep, h.get? a = some o ∧ o.ExactDict ∧ o.data = .dict es ep ∧ es.toList = xs.map (entryOfKey (tupleKind (mixKind P w))) ∧ (xs.map (·.1)).Nodup
  | .set S n => h.SetOf (intKind P w) a S n
  | .ins C dx fs => H dx = some (.own a) ∧ fs.length ≤ 1000 ∧ dx ≠ a ∧ h.get? a = some (PySem.W.instObj C dx) ∧
      ∃ mA, h.Ns1 dx mA ∧ (∀ f, RelO (fs.lookup f) (mA f)) ∧ PySem.Within mA (fs.map (·.1))
  | .own _ => ∃ o, h.get? a = some o
  | .xd fs => ∃ mA, h.Ns1 a mA ∧ ∀ f, RelO (fs.lookup f) (mA f)
  | .rng lo hi => ∃ t u v, h.get? a = some { cls := .type "range", data := .fields #[.int lo t, .int hi u, .int 1 v] }
  | .frz o u => h.get? a = some o ∧ ObjOk H h a u
  | .tbl ps => h.get? a = some { cls := .none, data := .fields ps }
  | .tab q => ∃ ps : Array Value, h.get? a = some { cls := .none, data := .fields ps } ∧ TriplesOk ps.toList ∧ ∀ (pos : Pos) (cv : Value), codeAmong pos ps.toList = some cv → ∃ (c : Addr) (o : Obj) (vs : Array Value) (t : Tok), cv = .ref c ∧ H c = some (.own a) ∧ h.get? c = some o ∧ o.data = .fields vs ∧ vs[1]? = some (.str q t)
  | .met f x => h.get? a = some (PySem.W.methodObj (.ref f) (.ref x))
  | .ext φ => φ h ∧ (∃ o, h.get? a = some o) ∧ ∀ h1 h2 : Heap, φ h1 → (∀ o, h1.get? a = some o → h2.get? a = some o) → φ h2
def HOk (H : Hp) (h : Heap) : Prop := ∀ a o, H a = some o → ObjOk P w H h a o
end

section
variable {P : Program} {w : World} {H H' : Hp} {h h' : Heap} {a : Addr} {o : HO}
theorem ObjOk.lt (x : ObjOk P w H h a o) : a < h.objs.size := by
  cases o with
  | lst xs => obtain ⟨_, _, _, _, e⟩ := x; exact Heap.lt_size e
  | tup xs => obtain ⟨_, _, _, _, e⟩ := x; exact Heap.lt_size e
  | dK kvs => obtain ⟨_, _, _, _, o, _, _, e, _⟩ := x; exact Heap.lt_size e
  | dT kvs => obtain ⟨_, _, _, _, o, _, _, e, _⟩ := x; exact Heap.lt_size e
  | set S n => obtain ⟨o, _, _, _, e, _⟩ := x; exact Heap.lt_size e
  | ins C dx fs => obtain ⟨_, _, _, e, _⟩ := x; exact Heap.lt_size e
  | own y => obtain ⟨_, e⟩ := x; exact Heap.lt_size e
  | xd fs => obtain ⟨_, ⟨_, _, _, e, _⟩, _⟩ := x; exact Heap.lt_size e
  | rng lo hi => obtain ⟨_, _, _, e⟩ := x; exact Heap.lt_size e
  | frz ob u => obtain ⟨e, _⟩ := x; exact Heap.lt_size e
  | tbl ps => exact Heap.lt_size (show h.get? a = some _ from x)
  | tab q => obtain ⟨_, e, _⟩ := x; exact Heap.lt_size e
  | met f y => exact Heap.lt_size (show h.get? a = some _ from x)
  | ext φ => obtain ⟨_, ⟨_, e⟩, _⟩ := x; exact Heap.lt_size e
theorem Paired.mapP {α β : Type} {F G : α → β → Prop} : ∀ {l₁ : List α} {l₂ : List β}, Paired F l₁ l₂ → (∀ a b, F a b → G a b) → Paired G l₁ l₂
  | _, _, .nil, _ => .nil
  | _, _, .cons r t, f => .cons (f _ _ r) (Paired.mapP t f)
theorem ObjOk.stay (x : ObjOk P w H h a o) (k : ∀ b u, (b = a ∨ H b = some (.own a)) → h.get? b = some u → h'.get? b = some u)
    (ho : ∀ b, H b = some (.own a) → H' b = some (.own a)) (ht : ∀ b xs, H b = some (.tup xs) → H' b = some (.tup xs)) : ObjOk P w H' h' a o := by
  induction o with
  | lst xs => obtain ⟨z, its, n, r, e⟩ := x; exact ⟨z, its, n, r, k _ _ (.inl rfl) e⟩
  | tup xs => obtain ⟨z, its, n, r, e⟩ := x; exact ⟨z, its, n, r, k _ _ (.inl rfl) e⟩
  | dK kvs => obtain ⟨z, y, vs, r, ob, es, ep, e, c⟩ := x; exact ⟨z, y, vs, r, ob, es, ep, k _ _ (.inl rfl) e, c⟩
  | dT kvs =>
    obtain ⟨z, y, xs, r, ob, es, ep, e, c⟩ := x
    exact ⟨z, y, xs, Paired.mapP r fun p q z => ⟨z.1, ht _ _ z.2.1, z.2.2⟩, ob, es, ep, k _ _ (.inl rfl) e, c⟩
  | set S n => obtain ⟨ob, es, ep, t, e, c⟩ := x; exact ⟨ob, es, ep, t, k _ _ (.inl rfl) e, c⟩
  | ins C dx fs =>
    obtain ⟨d, z, ne, e, mA, ⟨od, es, ep, e2, c⟩, r⟩ := x
    exact ⟨ho _ d, z, ne, k _ _ (.inl rfl) e, mA, ⟨od, es, ep, k _ _ (.inr d) e2, c⟩, r⟩
  | own y => obtain ⟨ob, e⟩ := x; exact ⟨ob, k _ _ (.inl rfl) e⟩
  | xd fs => obtain ⟨mA, ⟨od, es, ep, e, c⟩, r⟩ := x; exact ⟨mA, ⟨od, es, ep, k _ _ (.inl rfl) e, c⟩, r⟩
  | rng lo hi => obtain ⟨t, u, v, e⟩ := x; exact ⟨t, u, v, k _ _ (.inl rfl) e⟩
  | frz ob u ih => obtain ⟨e, q⟩ := x; exact ⟨k _ _ (.inl rfl) e, ih q⟩
  | tbl ps =>
    have e : h.get? a = some { cls := .none, data := .fields ps } := x
    show h'.get? a = some { cls := .none, data := .fields ps }
    exact k a _ (.inl rfl) e
  | tab q =>
    obtain ⟨ps, e, z, r⟩ := x
    refine ⟨ps, k _ _ (.inl rfl) e, z, fun pos cv q => ?_⟩
    obtain ⟨c, o, vs, t, r1, r2, r3, r4⟩ := r pos cv q
    exact ⟨c, o, vs, t, r1, ho _ r2, k _ _ (.inr r2) r3, r4⟩
  | met f y =>
    have e : h.get? a = some (PySem.W.methodObj (.ref f) (.ref y)) := x
    show h'.get? a = some (PySem.W.methodObj (.ref f) (.ref y))
    exact k a _ (.inl rfl) e
  | ext φ => obtain ⟨p, ⟨o, e⟩, st⟩ := x; exact ⟨st _ _ p fun o q => k _ _ (.inl rfl) q, ⟨o, k _ _ (.inl rfl) e⟩, st⟩
theorem HOk.lt (x : HOk P w H h) (e : H a = some o) : a < h.objs.size := (x a o e).lt
theorem HOk.fresh (x : HOk P w H h) (e : h.objs.size ≤ a) : H a = none := by
  cases q : H a with
  | none => rfl
  | some u => exact absurd (Nat.lt_of_lt_of_le (x.lt q) e) (Nat.lt_irrefl _)
theorem HOk.kept (x : HOk P w H h) (k : ∀ b u, h.get? b = some u → h'.get? b = some u) : HOk P w H h' := fun a o e =>
  (x a o e).stay (fun b u _ q => k b u q) (fun _ q => q) fun _ _ q => q
theorem HOk.laid (x : HOk P w H h) (k : ∀ b u, h.get? b = some u → h'.get? b = some u) (hp : h.objs.size ≤ a) (new : ObjOk P w (upd H a o) h' a o) : HOk P w (upd H a o) h' := fun b u e => by
  have hn := x.fresh hp
  by_cases hb : b = a
  · subst hb; rw [upd_same] at e; cases e; exact new
  · rw [upd_ne hb] at e
    exact (x b u e).stay (fun c v _ q => k c v q) (fun c q => by rw [upd_ne (ne_of_none q hn)]; exact q) fun c xs q => by rw [upd_ne (ne_of_none q hn)]; exact q
end

def Rd (H : Hp) (a : Addr) (u : HO) : Prop := H a = some u ∨ ∃ o, H a = some (.frz o u)
theorem Rd.of {H : Hp} {a : Addr} {u : HO} (h : H a = some u) : Rd H a u := .inl h
theorem Rd.ok {P : Program} {w : World} {H : Hp} {h : Heap} {a : Addr} {u : HO} (r : Rd H a u) (x : HOk P w H h) : ObjOk P w H h a u := by
  rcases r with r | ⟨o, r⟩
  · exact x a u r
  · obtain ⟨_, q⟩ := x a _ r
    exact q
def Mut : Option HO → Prop
  | some (.lst _) => True
  | some (.dK _) => True
  | some (.dT _) => True
  | some (.set _ _) => True
  | some (.ins _ _ _) => True
  | some (.ext _) => True
  | some (.tab _) => True
  | _ => False
section
variable {P : Program} {w : World} {H : Hp} {h h' : Heap} {x e : Addr} {o' : HO}
theorem HOk.write (ok : HOk P w H h) (mu : Mut (H x)) (he : e = x ∨ H e = some (.own x)) (k : ∀ b u, b ≠ e → h.get? b = some u → h'.get? b = some u) (heo : ∃ u, h'.get? e = some u)
    (new : ObjOk P w (upd H x o') h' x o') : HOk P w (upd H x o') h' := fun b u q => by
  have nown : ∀ c y, H c = some (.own y) → c ≠ x := fun c y r z => by subst z; rw [r] at mu; exact mu
  have ntup : ∀ c xs, H c = some (.tup xs) → c ≠ x := fun c xs r z => by subst z; rw [r] at mu; exact mu
  by_cases hb : b = x
  · subst hb; rw [upd_same] at q; cases q; exact new
  · rw [upd_ne hb] at q
    by_cases hbe : b = e
    · have q' : H b = some (.own x) := by
        rcases he with z | z
        · exact absurd (hbe.trans z) hb
        · rw [hbe]; exact z
      rw [q] at q'; cases q'
      obtain ⟨v, hv⟩ := heo
      exact ⟨v, by rw [hbe]; exact hv⟩
    · refine (ok b u q).stay (fun c v hc r => k c v ?_ r) (fun c r => by rw [upd_ne (nown c b r)]; exact r) fun c xs r => by rw [upd_ne (ntup c xs r)]; exact r
      rcases hc with rfl | hc
      · exact hbe
      · rintro rfl
        rcases he with z | z
        · exact nown c b hc z
        · rw [hc] at z; cases z; exact hb rfl
end

structure Un (fs ex : List Addr) (H H' : Hp) (h h' : Heap) : Prop where
  keep : ∀ b o, h.get? b = some o → H b = none → b ∉ fs → b ∉ ex → h'.get? b = some o
  slot : ∀ b o, h.get? b = some o → H b = none → b ∈ fs → b ∉ ex → ∃ sl, h'.get? b = some { o with slots := sl }
  free : ∀ b o, h.get? b = some o → H b = none → b ∉ ex → H' b = none
  there : ∀ b o, h.get? b = some o → b ∉ ex → ∃ o', h'.get? b = some o'
  tups : ∀ b xs, H b = some (.tup xs) → H' b = some (.tup xs)
  frzs : ∀ b o u, H b = some (.frz o u) → H' b = some (.frz o u)
  tbls : ∀ b ps, H b = some (.tbl ps) → ∃ more, H' b = some (.tbl (ps ++ more))
section
variable {fs fs' ex ex' : List Addr} {H H1 H2 : Hp} {h h1 h2 h' : Heap} {a x e : Addr} {o : HO}
theorem Un.any (u : Un fs ex H H1 h h1) {b : Addr} {ob : Obj} (q : h.get? b = some ob) (n : H b = none) (hx : b ∉ ex) : ∃ sl, h1.get? b = some { ob with slots := sl } := by
  by_cases hb : b ∈ fs
  · exact u.slot b ob q n hb hx
  · exact ⟨ob.slots, u.keep b ob q n hb hx⟩
theorem Un.trans (a : Un fs ex H H1 h h1) (b : Un fs ex H1 H2 h1 h2) : Un fs ex H H2 h h2 where
  keep := fun c ob q n hc hx => b.keep c ob (a.keep c ob q n hc hx) (a.free c ob q n hx) hc hx
  slot := fun c ob q n hc hx => by
    obtain ⟨sl, e1⟩ := a.slot c ob q n hc hx
    obtain ⟨sl', e2⟩ := b.slot c _ e1 (a.free c ob q n hx) hc hx
    exact ⟨sl', e2⟩
  free := fun c ob q n hx => by
    obtain ⟨o', e1⟩ := a.there c ob q hx
    exact b.free c o' e1 (a.free c ob q n hx) hx
  there := fun c ob q hx => by
    obtain ⟨o', e1⟩ := a.there c ob q hx
    exact b.there c o' e1 hx
  tups := fun c xs q => b.tups c xs (a.tups c xs q)
  frzs := fun c ob xs q => b.frzs c ob xs (a.frzs c ob xs q)
  tbls := fun c ps q => by
    obtain ⟨m1, e1⟩ := a.tbls c ps q
    obtain ⟨m2, e2⟩ := b.tbls c _ e1
    exact ⟨m1 ++ m2, by rw [e2, Array.append_assoc]⟩
theorem Un.kept (k : ∀ b u, h.get? b = some u → h'.get? b = some u) : Un fs ex H H h h' :=
  ⟨fun b ob q _ _ _ => k b ob q, fun b ob q _ _ _ => ⟨ob.slots, k b ob q⟩, fun _ _ _ n _ => n, fun b ob q _ => ⟨ob, k b ob q⟩, fun _ _ q => q, fun _ _ _ q => q, fun _ ps q => ⟨#[], by rw [q]; simp⟩⟩
theorem Un.refl : Un fs ex H H h h := Un.kept fun _ _ q => q
theorem Un.laid (k : ∀ b u, h.get? b = some u → h'.get? b = some u) (hp : h.objs.size ≤ a) (hn : H a = none) : Un fs ex H (upd H a o) h h' where
  keep := fun b u q _ _ _ => k b u q
  slot := fun b u q _ _ _ => ⟨u.slots, k b u q⟩
  free := fun b u q n _ => by rw [upd_ne (Nat.ne_of_lt (Nat.lt_of_lt_of_le (Heap.lt_size q) hp))]; exact n
  there := fun b u q _ => ⟨u, k b u q⟩
  tups := fun b xs q => by rw [upd_ne (ne_of_none q hn)]; exact q
  frzs := fun b u xs q => by rw [upd_ne (ne_of_none q hn)]; exact q
  tbls := fun b ps q => ⟨#[], by rw [upd_ne (ne_of_none q hn), q]; simp⟩
theorem Un.write (mu : Mut (H x)) (he : e = x ∨ H e = some (.own x)) (k : ∀ b u, b ≠ e → h.get? b = some u → h'.get? b = some u) (heo : ∃ u, h'.get? e = some u) : Un fs ex H (upd H x o) h h' := by
  have hx : ∀ b, H b = none → b ≠ x := fun b n z => by subst z; rw [n] at mu; exact mu
  have hb : ∀ b, H b = none → b ≠ e := fun b n z => by
    subst z
    rcases he with r | r
    · exact hx b n r
    · rw [n] at r; cases r
  have hm : ∀ b u, H b = some u → ¬ Mut (some u) → b ≠ x := fun b u q nm z => by subst z; rw [q] at mu; exact nm mu
  refine ⟨fun b u q n _ _ => k b u (hb b n) q, fun b u q n _ _ => ⟨u.slots, k b u (hb b n) q⟩, fun b u q n _ => by rw [upd_ne (hx b n)]; exact n, fun b u q _ => ?_,
    fun b xs q => by rw [upd_ne (hm b _ q fun z => z)]; exact q, fun b u xs q => by rw [upd_ne (hm b _ q fun z => z)]; exact q, fun b ps q => ⟨#[], by rw [upd_ne (hm b _ q fun z => z), q]; simp⟩⟩
  by_cases hbe : b = e
  · subst hbe; exact heo
  · exact ⟨u, k b u hbe q⟩
theorem Un.mono (u : Un fs ex H H1 h h1) (hs : ∀ b ∈ fs, b ∈ fs') (hx : ∀ b ∈ ex, b ∈ ex') : Un fs' ex' H H1 h h1 :=
  ⟨fun b ob q n hb he => u.keep b ob q n (fun z => hb (hs b z)) fun z => he (hx b z), fun _ _ q n _ he => u.any q n fun z => he (hx _ z), fun b ob q n he => u.free b ob q n fun z => he (hx b z), fun b ob q he => u.there b ob q fun z => he (hx b z), u.tups, u.frzs, u.tbls⟩
end

def trk (h : Heap) (H : Hp) : List Addr := (List.range h.objs.size).filter fun a => (H a).isSome
def hidT (h : Heap) (H : Hp) : Heap := PySem.W.hideAll h (trk h H)
theorem hidT_size (h : Heap) (H : Hp) : (hidT h H).objs.size = h.objs.size := PySem.W.hideAll_size _ _
theorem hidT_get {h : Heap} {H : Hp} {b : Addr} {o : Obj} (e : h.get? b = some o) (n : H b = none) : (hidT h H).get? b = some o :=
  PySem.W.hideAll_get _ e fun hm => by
    have q : (H b).isSome = true := (List.mem_filter.mp hm).2
    rw [n] at q; simp at q
theorem of_hidT {h : Heap} {H : Hp} {b : Addr} {o : Obj} (e : (hidT h H).get? b = some o) : h.get? b = some o ∧ H b = none := by
  have e' : h.get? b = some o := PySem.W.of_hideAll (trk h H) e
  refine ⟨e', ?_⟩
  cases q : H b with
  | none => rfl
  | some x =>
    have hm : b ∈ trk h H := List.mem_filter.mpr ⟨List.mem_range.mpr (Heap.lt_size e'), by simp [q]⟩
    have z : (hidT h H).get? b = none := PySem.W.hideAll_none (trk h H) hm
    rw [z] at e; cases e

def allNews (g h : Heap) (L : Addr) : List (Addr × Obj) := (List.range h.objs.size).filterMap fun a => if a = L ∨ (g.get? a).isSome = true then none else (h.get? a).map fun o => (a, o)
def rest (g h : Heap) (L d : Addr) : List (Addr × Obj) := (allNews g h L).filter fun p => decide (p.1 ≠ d)
end L2

namespace L2
open PySem PySem.Spec PyProof.Rows

structure Mod (K : PySem.W.Frag) (mg : Str → Option Value) (base : Heap) : Prop where
  kin : K.In base
  glob : base.Ns mainGlobals mg
  blt : ∃ mb, base.Ns builtinsNs mb ∧ ∀ x : Str, x ≠ "__name__" → mb x = bootBuiltins x
  nolimit : base.NoLimit
  mods : ∃ mm, base.Ns sysModules mm

structure Cx where
  prog : Program
  w : World
  K : PySem.W.Frag
  mg : Str → Option Value
  base : Heap
  A : Around
  N : List Str
  s₀ : Shared
  H₀ : Hp
  env : Env
  outer : List Env
  stack : List Env
  ex : List Addr
  fn : Str → Bool
  calm : Bool
  pn : List (Addr × Obj)
  xe : Value → Shared → Prop
def frs (l : List Env) : List Addr := l.filterMap (·.frame)
abbrev Cx.fs (X : Cx) : List Addr := frs X.outer

def Vis (sc : Scope) (x : Str) : Prop := sc.names.lookup x = some .local ∨ sc.names.lookup x = some .cell ∨ sc.names.lookup x = some .free
def Loc (sc : Scope) (x : Str) : Prop := sc.names.lookup x = some .local ∨ sc.names.lookup x = some .cell
def Look (env : Env) (h : Heap) (m : Str → Option Value) (x : Str) (u : Value) : Prop :=
  (env.kindOf x = some .local ∧ m x = some u) ∨ ((env.kindOf x = some .cell ∨ env.kindOf x = some .free) ∧ ∃ c, env.cells.lookup x = some c ∧ h.IsCell c (some u))

structure Cx.Ok (X : Cx) : Prop where
  mod : Mod X.K X.mg X.base
  kind : X.env.scope.kind = .function
  glob : X.env.globals = mainGlobals
  blt : X.env.builtins = builtinsNs
  above : X.s₀.heap.objs.size ≤ X.env.locals
  inj : ∀ x y c, X.env.cells.lookup x = some c → X.env.cells.lookup y = some c → x = y
  has : ∀ x, (X.env.kindOf x = some .cell ∨ X.env.kindOf x = some .free) → ∃ c, X.env.cells.lookup x = some c
  cab : ∀ x c, X.fn x = true → X.env.cells.lookup x = some c → X.s₀.heap.objs.size ≤ c
  hd : X.calm = true → X.A.handled = none
  frames : X.A.frames = some X.stack
  stk : X.stack = X.outer ∨ (X.stack = X.env :: X.outer ∧ X.env.frame = some X.env.locals)
  exf : ∀ b ∈ X.ex, b ≠ X.env.locals ∧ ∀ x c, X.env.cells.lookup x = some c → c ≠ b
  bs : ∀ b o, X.base.get? b = some o → X.s₀.heap.get? b = some o ∧ X.H₀ b = none
  bsz : X.base.objs.size ≤ X.s₀.heap.objs.size
  noex : ∀ b o, X.base.get? b = some o → b ∉ X.ex
  exfs : ∀ b ∈ X.ex, b ∉ X.fs
  funs : X.s₀.heap.FunFrames X.base X.outer
  frf : ∀ b ∈ X.fs, X.H₀ b = none

structure Inv (X : Cx) (pins : List (Addr × Obj)) (σ : List (Option V)) (H : Hp) (s : Shared) : Prop where
  ok : X.Ok
  os : s.os = X.s₀.os
  bare : AllBare s.gens
  base : Un X.fs X.ex X.H₀ H X.s₀.heap s.heap
  loc : ∃ m, s.heap.Ns X.env.locals m ∧ ∀ (i : Nat) (x : Str) (v : V), X.N[i]? = some x → σ[i]? = some (some v) → Vis X.env.scope x → ∃ u, RelV v u ∧ Look X.env s.heap m x u
  cell : ∀ x c, X.env.cells.lookup x = some c → ∃ v, s.heap.IsCell c v
  free : H X.env.locals = none
  freeC : ∀ x c, X.env.cells.lookup x = some c → H c = none
  pin : ∀ p ∈ X.pn ++ pins, s.heap.get? p.1 = some p.2 ∧ H p.1 = none ∧ p.1 ≠ X.env.locals ∧ p.1 ∉ X.fs ∧ ∀ v, p.2.data ≠ .cell v
  hok : HOk X.prog X.w H s.heap
  len : σ.length = X.N.length

section
variable {X : Cx} {pins : List (Addr × Obj)} {σ : List (Option V)} {H H' : Hp} {s : Shared} {h' : Heap}

theorem Cx.Ok.nofr (ok : X.Ok) {b : Addr} {o : Obj} (e : X.base.get? b = some o) : b ∉ X.fs := fun hb => by
  have := (ok.funs.mem hb).1
  rw [e] at this; cases this
theorem Inv.bs (I : Inv X pins σ H s) : ∀ b o, X.base.get? b = some o → s.heap.get? b = some o ∧ H b = none := fun b o e =>
  ⟨I.base.keep b o (I.ok.bs b o e).1 (I.ok.bs b o e).2 (I.ok.nofr e) (I.ok.noex b o e), I.base.free b o (I.ok.bs b o e).1 (I.ok.bs b o e).2 (I.ok.noex b o e)⟩
theorem Inv.bk (I : Inv X pins σ H s) : ∀ b o, X.base.get? b = some o → s.heap.get? b = some o := fun b o e => (I.bs b o e).1
theorem Inv.mod (I : Inv X pins σ H s) : Mod X.K X.mg X.base := I.ok.mod
theorem Inv.kIn (I : Inv X pins σ H s) : X.K.In s.heap := I.ok.mod.kin.keeps I.bk
theorem Inv.nolimit (I : Inv X pins σ H s) : s.heap.NoLimit := I.ok.mod.nolimit.keeps I.bk
theorem Inv.fr (I : Inv X pins σ H s) : ∃ m, Fr X.base X.env.locals s.heap m :=
  let ⟨m, hn, _⟩ := I.loc
  ⟨m, hn, I.bk, Nat.le_trans I.ok.bsz I.ok.above⟩
theorem Inv.lt (I : Inv X pins σ H s) : X.env.locals < s.heap.objs.size := let ⟨_, hn, _⟩ := I.loc; hn.lt
theorem Inv.sz (I : Inv X pins σ H s) : X.s₀.heap.objs.size ≤ s.heap.objs.size := Nat.le_trans I.ok.above (Nat.le_of_lt I.lt)
theorem Inv.nofs (I : Inv X pins σ H s) {a : Addr} (h : s.heap.objs.size ≤ a) : a ∉ X.fs := fun hb => by
  obtain ⟨_, o, ho, _⟩ := I.ok.funs.mem hb
  exact absurd (Nat.lt_of_lt_of_le (Heap.lt_size ho) (Nat.le_trans I.sz h)) (Nat.lt_irrefl _)
theorem Inv.cne (I : Inv X pins σ H s) : ∀ x c, X.env.cells.lookup x = some c → c ≠ X.env.locals := fun x c e z => by
  obtain ⟨v, o, ho, hd⟩ := I.cell x c e
  obtain ⟨m, ⟨o', es, ep, ho', hd', _⟩, _⟩ := I.loc
  rw [z, ho'] at ho; cases ho; rw [hd'] at hd; cases hd
theorem Inv.funs (I : Inv X pins σ H s) : s.heap.FunFrames X.base X.outer := by
  have all : ∀ (l : List Env), (∀ b ∈ frs l, b ∈ X.fs) → X.s₀.heap.FunFrames X.base l → s.heap.FunFrames X.base l := by
    intro l
    induction l with
    | nil => intro _ _; trivial
    | cons env r ih =>
      intro hs hl
      obtain ⟨hk, ⟨L, o, hf, hn, ho, hd⟩, hr⟩ := hl
      have hL : L ∈ X.fs := hs L (by unfold frs; rw [List.filterMap_cons, hf]; exact List.mem_cons_self)
      obtain ⟨sl, e⟩ := I.base.slot L o ho (I.ok.frf L hL) hL fun z => I.ok.exfs L z hL
      exact ⟨hk, ⟨L, _, hf, hn, e, hd⟩, ih (fun b hb => hs b (by unfold frs; rw [List.filterMap_cons, hf]; exact List.mem_cons_of_mem _ hb)) hr⟩
  exact all X.outer (fun _ hb => hb) I.ok.funs

theorem Inv.stack (I : Inv X pins σ H s) : s.heap.FunFrames X.base X.stack := by
  rcases I.ok.stk with e | ⟨e, hf⟩
  · rw [e]; exact I.funs
  · rw [e]
    obtain ⟨m, hn, _⟩ := I.loc
    refine .cons (by rw [I.ok.kind]; decide) hf hn ?_ I.funs
    exact Heap.get?_none_of_le (Nat.le_trans I.ok.bsz I.ok.above)
theorem Inv.stkSub (I : Inv X pins σ H s) : ∀ b ∈ frs X.stack, b ∈ X.env.locals :: X.fs := fun b hb => by
  rcases I.ok.stk with e | ⟨e, hf⟩
  · rw [e] at hb; exact List.mem_cons_of_mem _ hb
  · rw [e] at hb
    unfold frs at hb
    rw [List.filterMap_cons, hf] at hb
    exact hb
theorem Inv.stkFree (I : Inv X pins σ H s) : ∀ b ∈ frs X.stack, H b = none := fun b hb => by
  rcases List.mem_cons.mp (I.stkSub b hb) with e | hb
  · rw [e]; exact I.free
  · obtain ⟨_, o, ho, _⟩ := I.ok.funs.mem hb
    exact I.base.free b o ho (I.ok.frf b hb) fun z => I.ok.exfs b z hb

theorem Inv.step {g' : Array GenState} {t' : Nat} {d' : Drawn} {ch : List Addr} (I : Inv X pins σ H s)
    (hch : ∀ b ∈ ch, (b ∈ X.ex ∨ X.s₀.heap.objs.size ≤ b) ∧ b ≠ X.env.locals ∧ (∀ x c, X.env.cells.lookup x = some c → c ≠ b) ∧ ∀ p ∈ X.pn ++ pins, p.1 ≠ b)
    (keep : ∀ b o, b ≠ X.env.locals → b ∉ X.fs → b ∉ ch → s.heap.get? b = some o → H b = none → h'.get? b = some o)
    (slot : ∀ b o, b ≠ X.env.locals → b ∈ X.fs → b ∉ ch → s.heap.get? b = some o → H b = none → ∃ sl, h'.get? b = some { o with slots := sl }) (free : ∀ b o, b ∉ ch → s.heap.get? b = some o → H b = none → H' b = none)
    (there : ∀ b o, b ∉ ch → s.heap.get? b = some o → ∃ o', h'.get? b = some o')
    (tups : ∀ b xs, H b = some (.tup xs) → H' b = some (.tup xs)) (frzs : ∀ b o u, H b = some (.frz o u) → H' b = some (.frz o u)) (tbls : ∀ b ps, H b = some (.tbl ps) → ∃ more, H' b = some (.tbl (ps ++ more)))
    (ns : ∀ m, s.heap.Ns X.env.locals m → h'.Ns X.env.locals m) (hok : HOk X.prog X.w H' h') (hg : AllBare g') :
    Inv X pins σ H' { s with heap := h', gens := g', drawn := d', toks := t' } := by
  have neL : ∀ b o, X.s₀.heap.get? b = some o → b ≠ X.env.locals := fun b o e => Nat.ne_of_lt (Nat.lt_of_lt_of_le (Heap.lt_size e) I.ok.above)
  have neC : ∀ b o, X.s₀.heap.get? b = some o → b ∉ X.ex → b ∉ ch := fun b o e hx hb => by
    rcases (hch b hb).1 with z | z
    · exact hx z
    · exact absurd (Nat.lt_of_lt_of_le (Heap.lt_size e) z) (Nat.lt_irrefl _)
  have cellK : ∀ x c, X.env.cells.lookup x = some c → ∀ v, s.heap.IsCell c v → h'.IsCell c v := fun x c e v ⟨o, ho, hd⟩ => by
    have nch : c ∉ ch := fun z => (hch c z).2.2.1 x c e rfl
    by_cases hc : c ∈ X.fs
    · obtain ⟨sl, q⟩ := slot c o (I.cne x c e) hc nch ho (I.freeC x c e)
      exact ⟨_, q, hd⟩
    · exact ⟨o, keep c o (I.cne x c e) hc nch ho (I.freeC x c e), hd⟩
  refine ⟨I.ok, I.os, hg, ⟨fun b o e n hb hx => ?_, fun b o e n hb hx => ?_, fun b o e n hx => ?_, fun b o e hx => ?_, fun b xs e => tups b xs (I.base.tups b xs e), fun b o xs e => frzs b o xs (I.base.frzs b o xs e), fun b ps e => ?_⟩, ?_, fun x c e => ?_, ?_, fun x c e => ?_, fun p hp => ?_, hok, I.len⟩
  · exact keep b o (neL b o e) hb (neC b o e hx) (I.base.keep b o e n hb hx) (I.base.free b o e n hx)
  · obtain ⟨sl, e1⟩ := I.base.slot b o e n hb hx
    obtain ⟨sl', e2⟩ := slot b _ (neL b o e) hb (neC b o e hx) e1 (I.base.free b o e n hx)
    exact ⟨sl', e2⟩
  · obtain ⟨o', e1⟩ := I.base.there b o e hx
    exact free b o' (neC b o e hx) e1 (I.base.free b o e n hx)
  · obtain ⟨o', e1⟩ := I.base.there b o e hx
    exact there b o' (neC b o e hx) e1
  · obtain ⟨m1, e1⟩ := I.base.tbls b ps e
    obtain ⟨m2, e2⟩ := tbls b _ e1
    exact ⟨m1 ++ m2, by rw [e2, Array.append_assoc]⟩
  · obtain ⟨m, hn, hl⟩ := I.loc
    refine ⟨m, ns m hn, fun i x v e1 e2 e3 => ?_⟩
    obtain ⟨u, r, l⟩ := hl i x v e1 e2 e3
    refine ⟨u, r, ?_⟩
    rcases l with l | ⟨k, c, e, z⟩
    · exact .inl l
    · exact .inr ⟨k, c, e, cellK x c e _ z⟩
  · obtain ⟨v, z⟩ := I.cell x c e
    exact ⟨v, cellK x c e v z⟩
  · obtain ⟨m, ⟨o, _, _, ho, _⟩, _⟩ := I.loc
    exact free _ o (fun z => (hch _ z).2.1 rfl) ho I.free
  · obtain ⟨v, o, ho, hd⟩ := I.cell x c e
    exact free c o (fun z => (hch c z).2.2.1 x c e rfl) ho (I.freeC x c e)
  · obtain ⟨e, n, ne, nf, d⟩ := I.pin p hp
    have nch : p.1 ∉ ch := fun z => (hch p.1 z).2.2.2 p hp rfl
    exact ⟨keep p.1 p.2 ne nf nch e n, free p.1 p.2 nch e n, ne, nf, d⟩
theorem Inv.un {t' : Nat} (I : Inv X pins σ H s) (u : Un X.fs [] H H' s.heap h') (hok : HOk X.prog X.w H' h') : Inv X pins σ H' { s with heap := h', toks := t' } := by
  obtain ⟨m, ⟨o, es, ep, ho, r⟩, _⟩ := id I.loc
  obtain ⟨sl, hL⟩ := u.any ho I.free (by simp)
  exact I.step (g' := s.gens) (d' := s.drawn) (ch := []) (fun _ z => nomatch z) (fun b o _ hb _ e n => u.keep b o e n hb (by simp)) (fun b o _ hb _ e n => u.slot b o e n hb (by simp)) (fun b o _ e n => u.free b o e n (by simp)) (fun b o _ e => u.there b o e (by simp)) u.tups u.frzs u.tbls (fun m' hm => by
    obtain ⟨o', es', ep', ho', r'⟩ := hm
    rw [ho] at ho'; cases ho'
    exact ⟨_, es', ep', hL, r'⟩) hok I.bare
theorem Inv.call {g' : Array GenState} {t' : Nat} {d' : Drawn} {ch : List Addr} (I : Inv X pins σ H s) (u : Un (frs X.stack) ch H H' s.heap h') (hok : HOk X.prog X.w H' h') (hg : AllBare g')
    (hch : ∀ b ∈ ch, (b ∈ X.ex ∨ X.s₀.heap.objs.size ≤ b) ∧ b ≠ X.env.locals ∧ (∀ x c, X.env.cells.lookup x = some c → c ≠ b) ∧ ∀ p ∈ X.pn ++ pins, p.1 ≠ b) :
    Inv X pins σ H' { s with heap := h', gens := g', drawn := d', toks := t' } := by
  obtain ⟨m, ⟨o, es, ep, ho, r⟩, _⟩ := id I.loc
  obtain ⟨sl, hL⟩ := u.any ho I.free fun z => (hch _ z).2.1 rfl
  exact I.step (ch := ch) hch (fun b o hL hb hc e n => u.keep b o e n (fun z => (List.mem_cons.mp (I.stkSub b z)).elim hL hb) hc) (fun b o _ _ hc e n => u.any e n hc) (fun b o hc e n => u.free b o e n hc) (fun b o hc e => u.there b o e hc) u.tups u.frzs u.tbls (fun m' hm => by
    obtain ⟨o', es', ep', ho', r'⟩ := hm
    rw [ho] at ho'; cases ho'
    exact ⟨_, es', ep', hL, r'⟩) hok hg
theorem Inv.turned {t' : Nat} {it : Addr} (I : Inv X pins σ H s) (k : ∀ b o, b ≠ it → s.heap.get? b = some o → h'.get? b = some o) (hn : H it = none) (hL : it ≠ X.env.locals)
    (h1 : it ∈ X.ex ∨ X.s₀.heap.objs.size ≤ it) (h2 : ∀ x c, X.env.cells.lookup x = some c → c ≠ it) (h3 : ∀ p ∈ X.pn ++ pins, p.1 ≠ it) : Inv X pins σ H { s with heap := h', toks := t' } := by
  have nit : ∀ b u, H b = some u → b ≠ it := fun b u e z => by rw [z, hn] at e; cases e
  refine I.step (g' := s.gens) (d' := s.drawn) (ch := [it]) (fun b hb => ?_) (fun b o _ _ hc e _ => k b o (fun z => hc (by simp [z])) e) (fun b o _ _ hc e _ => ⟨o.slots, k b o (fun z => hc (by simp [z])) e⟩) (fun _ _ _ _ n => n)
    (fun b o hc e => ⟨o, k b o (fun z => hc (by simp [z])) e⟩) (fun _ _ e => e) (fun _ _ _ e => e) (fun b ps e => ⟨#[], by rw [e]; simp⟩) (fun m hm => ?_) (fun b u e => ?_) I.bare
  · have e : b = it := by simpa using hb
    subst e
    exact ⟨h1, hL, h2, h3⟩
  · obtain ⟨o, es, ep, ho, r⟩ := hm
    exact ⟨o, es, ep, k _ o (Ne.symm hL) ho, r⟩
  · refine (I.hok b u e).stay (fun c v hc q => k c v ?_ q) (fun _ q => q) fun _ _ q => q
    rcases hc with z | z
    · rw [z]; exact nit b u e
    · exact nit c _ z
theorem Inv.tok (I : Inv X pins σ H s) (t : Nat) : Inv X pins σ H { s with toks := t } := I.un (h' := s.heap) (t' := t) Un.refl I.hok
theorem Inv.kept {t' : Nat} (I : Inv X pins σ H s) (k : ∀ b u, s.heap.get? b = some u → h'.get? b = some u) : Inv X pins σ H { s with heap := h', toks := t' } := I.un (Un.kept k) (I.hok.kept k)
theorem Inv.laid {a : Addr} {o : HO} {t' : Nat} (I : Inv X pins σ H s) (k : ∀ b u, s.heap.get? b = some u → h'.get? b = some u) (hp : s.heap.objs.size ≤ a) (new : ObjOk X.prog X.w (upd H a o) h' a o) :
    Inv X pins σ (upd H a o) { s with heap := h', toks := t' } := I.un (Un.laid k hp (I.hok.fresh hp)) (I.hok.laid k hp new)
theorem Inv.write {x e : Addr} {o : HO} {t' : Nat} (I : Inv X pins σ H s) (mu : Mut (H x)) (he : e = x ∨ H e = some (.own x)) (k : ∀ b u, b ≠ e → s.heap.get? b = some u → h'.get? b = some u) (heo : ∃ u, h'.get? e = some u)
    (new : ObjOk X.prog X.w (upd H x o) h' x o) : Inv X pins σ (upd H x o) { s with heap := h', toks := t' } := I.un (Un.write mu he k heo) (I.hok.write mu he k heo new)
theorem Inv.weak {σ' : List (Option V)} (I : Inv X pins σ H s) (hl : σ'.length = σ.length) (w : ∀ (i : Nat) v, σ'[i]? = some (some v) → σ[i]? = some (some v)) : Inv X pins σ' H s :=
  ⟨I.ok, I.os, I.bare, I.base, let ⟨m, hn, hl'⟩ := I.loc; ⟨m, hn, fun i x v e1 e2 e3 => hl' i x v e1 (w i v e2) e3⟩, I.cell, I.free, I.freeC, I.pin, I.hok, hl.trans I.len⟩
theorem Inv.pins_of {pins' : List (Addr × Obj)} (I : Inv X pins σ H s) (h : ∀ p ∈ pins', s.heap.get? p.1 = some p.2 ∧ H p.1 = none ∧ p.1 ≠ X.env.locals ∧ p.1 ∉ X.fs ∧ ∀ v, p.2.data ≠ .cell v) : Inv X pins' σ H s :=
  ⟨I.ok, I.os, I.bare, I.base, I.loc, I.cell, I.free, I.freeC, fun p hp => (List.mem_append.mp hp).elim (fun z => I.pin p (List.mem_append_left _ z)) (h p), I.hok, I.len⟩

theorem nodup_ix {N : List Str} (hN : N.Nodup) {i j : Nat} {x : Str} (a : N[i]? = some x) (b : N[j]? = some x) : i = j := by
  obtain ⟨h1, e1⟩ := List.getElem?_eq_some_iff.mp a
  obtain ⟨h2, e2⟩ := List.getElem?_eq_some_iff.mp b
  exact (List.getElem_inj hN).mp (e1.trans e2.symm)

theorem store_ok2 {M : Model} {A : Around} {E : Value → Shared → Prop} {i : Nat} {x : Str} {v : V} {u : Value} {Q : Unit → Shared → Prop} (I : Inv X pins σ H s) (hN : X.N.Nodup) (hi : X.N[i]? = some x) (hx : Loc X.env.scope x) (r : RelV v u)
    (h : ∀ s', Inv X pins (σ.set i (some v)) H s' → (∃ a, Heap.SameBut a s.heap s'.heap ∧ (a = X.env.locals ∨ X.env.cells.lookup x = some a)) → Q () s') (hf : X.fn x = true ∨ X.env.scope.names.lookup x = some .local := by first | exact .inl rfl | exact .inr rfl | assumption) : wpAny M A (storeName X.env x u) Q E s := by
  obtain ⟨m, hn, hl⟩ := id I.loc
  have hcls : (X.env.scope.kind == .class || (X.env.scope.kind == .module && X.env.locals != X.env.globals)) = false := by rw [I.ok.kind]; rfl
  have hiσ : i < σ.length := by rw [I.len]; exact (List.getElem?_eq_some_iff.mp hi).1
  have cne := I.cne
  have tracked : ∀ {a : Addr} {h' : Heap}, (∃ o, s.heap.get? a = some o ∧ H a = none) → Heap.SameBut a s.heap h' → HOk X.prog X.w H h' := fun {a h'} ha hs b ob e => by
    obtain ⟨_, _, hfree⟩ := ha
    refine (I.hok b ob e).stay (fun c w' hc q => (hs.2 c ?_).trans q) (fun _ q => q) fun _ _ q => q
    rintro rfl
    rcases hc with rfl | hc
    · rw [hfree] at e; cases e
    · rw [hfree] at hc; cases hc
  rcases hx with hk | hk
  · refine wpAny_storeName_local hk hn (fun h' hn' hs => ?_) hcls
    obtain ⟨oL, _, _, hoL, _⟩ := id hn
    refine h _ ⟨I.ok, I.os, I.bare, ⟨fun b o e n hb hx => ?_, fun b o e n hb hx => ?_, I.base.free, fun b o e hx => ?_, I.base.tups, I.base.frzs, I.base.tbls⟩, ⟨_, hn', fun j y v' e1 e2 e3 => ?_⟩, fun y c e => ?_, I.free, I.freeC, fun p hp => ?_, tracked ⟨oL, hoL, I.free⟩ hs, by simpa using I.len⟩ ⟨_, hs, .inl rfl⟩
    · exact (hs.2 b (Nat.ne_of_lt (Nat.lt_of_lt_of_le (Heap.lt_size e) I.ok.above))).trans (I.base.keep b o e n hb hx)
    · obtain ⟨sl, e1⟩ := I.base.slot b o e n hb hx
      exact ⟨sl, (hs.2 b (Nat.ne_of_lt (Nat.lt_of_lt_of_le (Heap.lt_size e) I.ok.above))).trans e1⟩
    · obtain ⟨o', e1⟩ := I.base.there b o e hx
      exact ⟨o', (hs.2 b (Nat.ne_of_lt (Nat.lt_of_lt_of_le (Heap.lt_size e) I.ok.above))).trans e1⟩
    · by_cases hj : j = i
      · subst hj
        rw [hi] at e1; cases e1
        rw [List.getElem?_set_self hiσ] at e2
        cases e2
        exact ⟨u, r, .inl ⟨hk, by simp⟩⟩
      · rw [List.getElem?_set_ne (Ne.symm hj)] at e2
        obtain ⟨u', r', q⟩ := hl j y v' e1 e2 e3
        refine ⟨u', r', ?_⟩
        rcases q with ⟨k, e⟩ | ⟨k, c, e, z⟩
        · refine .inl ⟨k, ?_⟩
          have : y ≠ x := fun e => hj (nodup_ix hN e1 (e ▸ hi))
          simp [this, e]
        · exact .inr ⟨k, c, e, z.sameBut hs (cne y c e)⟩
    · obtain ⟨w', z⟩ := I.cell y c e
      exact ⟨w', z.sameBut hs (cne y c e)⟩
    · obtain ⟨e, n, ne, nf, d⟩ := I.pin p hp
      exact ⟨(hs.2 p.1 ne).trans e, n, ne, nf, d⟩
  · have hfn : X.fn x = true := by
      rcases hf with z | z
      · exact z
      · rw [z] at hk; cases hk
    obtain ⟨c, hc⟩ := I.ok.has x (.inl hk)
    obtain ⟨w', z⟩ := I.cell x c hc
    refine wpAny_storeName_cell I.ok.kind hk hc z (fun h' hc' hs => ?_)
    obtain ⟨oc, hoc, hocd⟩ := id z
    refine h { s with heap := h' } ⟨I.ok, I.os, I.bare, ⟨fun b o e n hb hx => ?_, fun b o e n hb hx => ?_, I.base.free, fun b o e hx => ?_, I.base.tups, I.base.frzs, I.base.tbls⟩, ⟨m, hn.sameBut hs (Ne.symm (cne x c hc)), fun j y v' e1 e2 e3 => ?_⟩, fun y c' e => ?_, I.free, I.freeC, fun p hp => ?_, tracked ⟨oc, hoc, I.freeC x c hc⟩ hs, by simpa using I.len⟩ ⟨c, hs, .inr hc⟩
    · exact (hs.2 b (Nat.ne_of_lt (Nat.lt_of_lt_of_le (Heap.lt_size e) (I.ok.cab x c hfn hc)))).trans (I.base.keep b o e n hb hx)
    · obtain ⟨sl, e1⟩ := I.base.slot b o e n hb hx
      exact ⟨sl, (hs.2 b (Nat.ne_of_lt (Nat.lt_of_lt_of_le (Heap.lt_size e) (I.ok.cab x c hfn hc)))).trans e1⟩
    · obtain ⟨o', e1⟩ := I.base.there b o e hx
      exact ⟨o', (hs.2 b (Nat.ne_of_lt (Nat.lt_of_lt_of_le (Heap.lt_size e) (I.ok.cab x c hfn hc)))).trans e1⟩
    · by_cases hj : j = i
      · subst hj
        rw [hi] at e1; cases e1
        rw [List.getElem?_set_self hiσ] at e2
        cases e2
        exact ⟨u, r, .inr ⟨.inl hk, c, hc, hc'⟩⟩
      · rw [List.getElem?_set_ne (Ne.symm hj)] at e2
        obtain ⟨u', r', q⟩ := hl j y v' e1 e2 e3
        refine ⟨u', r', ?_⟩
        rcases q with q | ⟨k, c', e, z'⟩
        · exact .inl q
        · refine .inr ⟨k, c', e, z'.sameBut hs ?_⟩
          rintro rfl
          exact hj (nodup_ix hN e1 (I.ok.inj _ _ _ e hc ▸ hi))
    · by_cases hcc : c' = c
      · subst hcc; exact ⟨_, hc'⟩
      · obtain ⟨w2, z2⟩ := I.cell y c' e
        exact ⟨w2, z2.sameBut hs hcc⟩
    · obtain ⟨e, n, ne, nf, d⟩ := I.pin p hp
      refine ⟨(hs.2 p.1 ?_).trans e, n, ne, nf, d⟩
      intro q
      rw [q, hoc] at e
      have q' : oc = p.2 := Option.some.inj e
      exact d w' (by rw [← q']; exact hocd)
theorem store_ok {M : Model} {A : Around} {E : Value → Shared → Prop} {i : Nat} {x : Str} {v : V} {u : Value} {Q : Unit → Shared → Prop} (I : Inv X pins σ H s) (hN : X.N.Nodup) (hi : X.N[i]? = some x) (hx : Loc X.env.scope x) (r : RelV v u)
    (h : ∀ s', Inv X pins (σ.set i (some v)) H s' → Q () s') (hf : X.fn x = true ∨ X.env.scope.names.lookup x = some .local := by first | exact .inl rfl | exact .inr rfl | assumption) : wpAny M A (storeName X.env x u) Q E s :=
  store_ok2 I hN hi hx r (fun s' I' _ => h s' I') hf
theorem Inv.call' {s' : Shared} {ch : List Addr} (I : Inv X pins σ H s) (ho : s'.os = s.os) (u : Un (frs X.stack) ch H H' s.heap s'.heap) (hok : HOk X.prog X.w H' s'.heap) (hg : AllBare s'.gens)
    (hch : ∀ b ∈ ch, (b ∈ X.ex ∨ X.s₀.heap.objs.size ≤ b) ∧ b ≠ X.env.locals ∧ (∀ x c, X.env.cells.lookup x = some c → c ≠ b) ∧ ∀ p ∈ X.pn ++ pins, p.1 ≠ b) : Inv X pins σ H' s' := by
  obtain ⟨h', g', d', t', o'⟩ := s'
  have e : o' = s.os := ho
  subst e
  exact I.call (g' := g') (t' := t') (d' := d') u hok hg hch
end

abbrev XK := Value → Option Addr → Hp → Prop
abbrev St := List (Option V)
abbrev VK := V → Hp → Prop
abbrev TE := St → Hp → VK → Prop
abbrev TT := St → Hp → (Bool → Hp → Prop) → Prop
abbrev TA := St → Hp → (List V → Hp → Prop) → Prop
structure Ends where
  nx : St → Hp → Prop
  rt : VK
  bk : St → Hp → Prop := fun _ _ => False
  ct : St → Hp → Prop := fun _ _ => False
abbrev TS := Ends → St → Hp → Prop

def EP (X : Cx) (pins : List (Addr × Obj)) (σ : St) (Q : VK) (u : Value) (s' : Shared) : Prop := ∃ v H', Inv X pins σ H' s' ∧ RelV v u ∧ Q v H'
def TP (X : Cx) (pins : List (Addr × Obj)) (σ : St) (Q : Bool → Hp → Prop) (b : Bool) (s' : Shared) : Prop := ∃ H', Inv X pins σ H' s' ∧ Q b H'
def AP (X : Cx) (pins : List (Addr × Obj)) (σ : St) (Q : List V → Hp → Prop) (us : List Value) (s' : Shared) : Prop := ∃ vs H', Inv X pins σ H' s' ∧ Vals vs us ∧ Q vs H'
def SP (X : Cx) (pins : List (Addr × Obj)) (D : Ends) (f : Flow) (s' : Shared) : Prop :=
  match f with
  | .next => ∃ σ' H', Inv X pins σ' H' s' ∧ D.nx σ' H'
  | .brk => ∃ σ' H', Inv X pins σ' H' s' ∧ D.bk σ' H'
  | .cont => ∃ σ' H', Inv X pins σ' H' s' ∧ D.ct σ' H'
  | .ret u => ∃ v σ' H', Inv X pins σ' H' s' ∧ RelV v u ∧ D.rt v H'

def PE (X : Cx) (e : Expr) (t : TE) : Prop :=
  ∀ (pins : List (Addr × Obj)) (s : Shared) (σ : St) (H : Hp) (Q : VK), Inv X pins σ H s → t σ H Q → wpAny (model X.prog X.w) X.A (eval e X.env) (EP X pins σ Q) X.xe s
def PT (X : Cx) (e : Expr) (t : TT) : Prop :=
  ∀ (pins : List (Addr × Obj)) (s : Shared) (σ : St) (H : Hp) (Q : Bool → Hp → Prop), Inv X pins σ H s → t σ H Q → wpAny (model X.prog X.w) X.A (isTrue e X.env (eval e X.env)) (TP X pins σ Q) X.xe s
def PW (X : Cx) (e : Expr) (t : TT) : Prop :=
  ∀ (whole : Sem Value) (pins : List (Addr × Obj)) (s : Shared) (σ : St) (H : Hp) (Q : Bool → Hp → Prop), Inv X pins σ H s → t σ H Q → wpAny (model X.prog X.w) X.A (isTrue e X.env whole) (TP X pins σ Q) X.xe s
theorem PW.pt {X : Cx} {e : Expr} {t : TT} (h : PW X e t) : PT X e t := h _
def PA (X : Cx) (es : List Expr) (t : TA) : Prop :=
  ∀ (pos : Pos) (pins : List (Addr × Obj)) (s : Shared) (σ : St) (H : Hp) (Q : List V → Hp → Prop), Inv X pins σ H s → t σ H Q → wpAny (model X.prog X.w) X.A (spliced (backTo pos (starEach es X.env))) (AP X pins σ Q) X.xe s
def PS (X : Cx) (st : Stmt) (t : TS) : Prop :=
  ∀ (pins : List (Addr × Obj)) (s : Shared) (σ : St) (H : Hp) (D : Ends), Inv X pins σ H s → t D σ H → wpAny (model X.prog X.w) X.A (exec st X.env) (SP X pins D) X.xe s
def PSs (X : Cx) (st : List Stmt) (t : TS) : Prop :=
  ∀ (pins : List (Addr × Obj)) (s : Shared) (σ : St) (H : Hp) (D : Ends), Inv X pins σ H s → t D σ H → wpAny (model X.prog X.w) X.A (execs st X.env) (SP X pins D) X.xe s
theorem thn {α : Type} {t : Sem α} {Q Q' : α → Shared → Prop} {M : Model} {A : Around} {E : Value → Shared → Prop} {s : Shared} (h : wpAny M A t Q E s) (hQ : ∀ a s, Q a s → Q' a s) : wpAny M A t Q' E s := wpAny_mono h hQ fun _ _ x => x
end L2

namespace L2
open PySem PySem.Spec PyProof.Rows
section
variable {X : Cx}

def tVar (i : Nat) : TE := fun σ H Q => ∃ v, σ[i]? = some (some v) ∧ Q v H
def tC (v : V) : TE := fun _ H Q => Q v H
theorem pe_var {i : Nat} {x : Str} {pos : Pos} (hN : X.N[i]? = some x) (hv : Vis X.env.scope x) (hd : (x == ("__debug__" : Str)) = false := by decide) (hcd : (x == ("__classdict__" : Str)) = false := by decide) : PE X (.Name x pos) (tVar i) := by
  intro pins s σ H Q I h
  obtain ⟨v, e, h⟩ := h
  obtain ⟨m, hn, hl⟩ := I.loc
  obtain ⟨u, r, l⟩ := hl i x v hN e hv
  have fin : EP X pins σ Q u s := ⟨v, H, I, r, h⟩
  rcases l with ⟨hk, hm⟩ | ⟨hk, c, hc, hcell⟩
  · exact wpAny_Name (wpAny_loadName_local I.ok.kind hk hn hm fin) hd
  · rcases hk with hk | hk
    · exact wpAny_Name (wpAny_loadName_cell I.ok.kind hk hc hcell fin) hd
    · exact wpAny_Name (wpAny_loadName_free I.ok.kind hk hc hcell fin hcd) hd
theorem pe_int {i j pos} : PE X (.Constant (.int i) j pos) (tC (.int i)) := fun _ _ _ H _ I h => wpAny_Constant_int ⟨.int i, H, I.tok _, ⟨_, rfl⟩, h⟩
theorem pe_bl {b j pos} : PE X (.Constant (.bool b) j pos) (tC (.bl b)) := fun _ _ _ H _ I h => Constant_bool ⟨.bl b, H, I, rfl, h⟩
theorem pe_non {j pos} : PE X (.Constant .none j pos) (tC .non) := fun _ _ _ H _ I h => Constant_none ⟨.non, H, I, rfl, h⟩
theorem pe_str {x j pos} : PE X (.Constant (.str x) j pos) (tC (.str x)) := fun _ _ _ H _ I h => Calls.Constant_str ⟨.str x, H, I.tok _, ⟨_, rfl⟩, h⟩

def Gl (X : Cx) (x : Str) : Prop := X.env.kindOf x = some .globalImplicit
theorem ld_glob {E : Value → Shared → Prop} {pins : List (Addr × Obj)} {s : Shared} {σ : St} {H : Hp} {x : Str} {u : Value} {pos : Pos} {Q : Value → Shared → Prop} (I : Inv X pins σ H s) (hg : Gl X x) (hm : X.mg x = some u) (h : Q u s)
    (hd : (x == ("__debug__" : Str)) = false := by decide) : wpAny (model X.prog X.w) X.A (eval (.Name x pos) X.env) Q E s :=
  Calls.Name_function_global I.ok.kind hg (Calls.loadGlobal_global (by rw [I.ok.glob]; exact I.mod.glob.keeps I.bk) hm h) hd
theorem ld_blt {E : Value → Shared → Prop} {pins : List (Addr × Obj)} {s : Shared} {σ : St} {H : Hp} {x : Str} {u : Value} {pos : Pos} {Q : Value → Shared → Prop} (I : Inv X pins σ H s) (hg : Gl X x) (hm : X.mg x = none) (hv : bootBuiltins x = some u) (h : Q u s)
    (hn : x ≠ "__name__" := by decide) (hd : (x == ("__debug__" : Str)) = false := by decide) : wpAny (model X.prog X.w) X.A (eval (.Name x pos) X.env) Q E s := by
  obtain ⟨mb, h1, h2⟩ := I.mod.blt
  exact Calls.Name_function_global I.ok.kind hg (Calls.loadGlobal_builtin (by rw [I.ok.glob]; exact I.mod.glob.keeps I.bk) hm (by rw [I.ok.blt]; exact h1.keeps I.bk) ((h2 x hn).trans hv) h) hd
theorem pe_glob {x : Str} {v : V} {u : Value} {pos : Pos} (hg : Gl X x) (hm : X.mg x = some u) (r : RelV v u) (hd : (x == ("__debug__" : Str)) = false := by decide) : PE X (.Name x pos) (tC v) :=
  fun _ _ _ H _ I h => ld_glob I hg hm ⟨v, H, I, r, h⟩ hd
theorem pe_bltn {x : Str} {v : V} {u : Value} {pos : Pos} (hg : Gl X x) (hm : X.mg x = none) (hv : bootBuiltins x = some u) (r : RelV v u) (hn : x ≠ "__name__" := by decide) (hd : (x == ("__debug__" : Str)) = false := by decide) : PE X (.Name x pos) (tC v) :=
  fun _ _ _ H _ I h => ld_blt I hg hm hv ⟨v, H, I, r, h⟩ hn hd

variable {a b : Expr} {ta tb : TE} {pos : Pos}
def tB (t : TE) : TT := fun σ H Q => t σ H fun x H1 => ∃ c, x = .bl c ∧ Q c H1
theorem pt_val {e : Expr} {t : TE} (h : PE X e t) (he : ∀ whole, isTrue e X.env whole = (do let v ← whole; standAt e.pos; holding [v] (truthy v)) := by intro _; rfl) : PT X e (tB t) := by
  intro pins s σ H Q I hw
  refine isTrue_plain (thn (h pins s σ H _ I hw) fun v s1 ⟨x, H1, I1, r1, q1⟩ => ?_) (he _)
  obtain ⟨d, rfl, q⟩ := q1
  cases r1
  exact wpAny_truthy_bool ⟨H1, I1, q⟩

variable {tA tB' : TT} {rest : List Expr}
def tAnd (t u : TT) : TT := fun σ H Q => t σ H fun c H1 => if c = true then u σ H1 Q else Q false H1
def tOr (t u : TT) : TT := fun σ H Q => t σ H fun c H1 => if c = true then Q true H1 else u σ H1 Q
def tNot (t : TT) : TT := fun σ H Q => t σ H fun c H1 => Q (!c) H1
theorem pw_and1 (ha : PT X a tA) : PW X (.BoolOp .And [a] pos) tA := by
  intro wh pins s σ H Q I h
  refine isTrue_and (thn (ha pins s σ H Q I h) fun c s1 e => ?_)
  cases c with
  | true => exact isTrue_and_nil e
  | false => exact e
theorem pw_or1 (ha : PT X a tA) : PW X (.BoolOp .Or [a] pos) tA := by
  intro wh pins s σ H Q I h
  refine isTrue_or (thn (ha pins s σ H Q I h) fun c s1 e => ?_)
  cases c with
  | false => exact isTrue_or_nil e
  | true => exact e
theorem pw_and (ha : PT X a tA) (hb : PW X (.BoolOp .And (b :: rest) pos) tB') : PW X (.BoolOp .And (a :: b :: rest) pos) (tAnd tA tB') := by
  intro wh pins s σ H Q I h
  refine isTrue_and (thn (ha pins s σ H _ I h) fun c s1 ⟨H1, I1, q1⟩ => ?_)
  cases c with
  | true => exact hb wh pins s1 σ H1 Q I1 q1
  | false => exact ⟨H1, I1, q1⟩
theorem pw_or (ha : PT X a tA) (hb : PW X (.BoolOp .Or (b :: rest) pos) tB') : PW X (.BoolOp .Or (a :: b :: rest) pos) (tOr tA tB') := by
  intro wh pins s σ H Q I h
  refine isTrue_or (thn (ha pins s σ H _ I h) fun c s1 ⟨H1, I1, q1⟩ => ?_)
  cases c with
  | true => exact ⟨H1, I1, q1⟩
  | false => exact hb wh pins s1 σ H1 Q I1 q1
theorem pt_not (ha : PT X a tA) : PT X (.UnaryOp .Not a pos) (tNot tA) := by
  intro pins s σ H Q I h
  exact isTrue_not (ha pins s σ H (fun c H1 => Q (!c) H1) I h)
def tAndV (ta tb : TE) : TE := fun σ H Q => ta σ H fun x H1 => ∃ c, x = .bl c ∧ if c = true then tb σ H1 Q else Q (.bl false) H1
def tOrV (ta tb : TE) : TE := fun σ H Q => ta σ H fun x H1 => ∃ c, x = .bl c ∧ if c = true then Q (.bl true) H1 else tb σ H1 Q
def tNotV (ta : TE) : TE := fun σ H Q => ta σ H fun x H1 => ∃ c, x = .bl c ∧ Q (.bl (!c)) H1
theorem pe_one {op} {t : TE} (h : PE X a t) : PE X (.BoolOp op [a] pos) t := fun pins s σ H Q I hw => BoolOp_one (h pins s σ H Q I hw)
theorem pe_and (ha : PE X a ta) (hb : PE X (.BoolOp .And (b :: rest) pos) tb) : PE X (.BoolOp .And (a :: b :: rest) pos) (tAndV ta tb) := by
  intro pins s σ H Q I h
  refine BoolOp_and (thn (ha pins s σ H _ I h) fun v s1 ⟨x, H1, I1, r1, q1⟩ => ?_)
  obtain ⟨c, rfl, q1⟩ := q1
  cases r1
  refine wpAny_truthy_bool ?_
  cases c with
  | true => exact hb pins s1 σ H1 Q I1 q1
  | false => exact ⟨.bl false, H1, I1, rfl, q1⟩
theorem pe_or (ha : PE X a ta) (hb : PE X (.BoolOp .Or (b :: rest) pos) tb) : PE X (.BoolOp .Or (a :: b :: rest) pos) (tOrV ta tb) := by
  intro pins s σ H Q I h
  refine BoolOp_or (thn (ha pins s σ H _ I h) fun v s1 ⟨x, H1, I1, r1, q1⟩ => ?_)
  obtain ⟨c, rfl, q1⟩ := q1
  cases r1
  refine wpAny_truthy_bool ?_
  cases c with
  | false => exact hb pins s1 σ H1 Q I1 q1
  | true => exact ⟨.bl true, H1, I1, rfl, q1⟩
theorem pe_not (ha : PE X a ta) : PE X (.UnaryOp .Not a pos) (tNotV ta) := by
  intro pins s σ H Q I h
  refine UnaryOp_ (thn (ha pins s σ H _ I h) fun v s1 ⟨x, H1, I1, r1, q1⟩ => ?_)
  obtain ⟨c, rfl, q1⟩ := q1
  cases r1
  exact not_of (wpAny_truthy_bool ⟨.bl (!c), H1, I1, rfl, q1⟩)
end
end L2

namespace L2
open PySem PySem.Spec PyProof.Rows

def SqL (K : PySem.W.Frag) (H : Hp) (a : Addr) (xs : List V) : Prop :=
  Rd H a (.lst xs) ∨
    ∃ (o : Obj) (its : Array Value) (n : Nat), K.lookup a = some o ∧ o.cls = .type "list" ∧ o.dict = none ∧ o.data = .seq its n ∧ its.size ≤ sizeLine ∧ Vals xs its.toList
def SqT (K : PySem.W.Frag) (H : Hp) (a : Addr) (xs : List V) : Prop :=
  Rd H a (.tup xs) ∨
    ∃ (o : Obj) (its : Array Value) (n : Nat), K.lookup a = some o ∧ o.cls = .type "tuple" ∧ o.dict = none ∧ o.data = .seq its n ∧ its.size ≤ sizeLine ∧ Vals xs its.toList
def absV : Value → Option V
  | .none => some .non
  | .bool b => some (.bl b)
  | .int i _ => some (.int i)
  | .str x _ => some (.str x)
  | .bytes b _ => some (.byt b)
  | .float b _ => some (.flt b)
  | .ref a => some (.ref a)
  | .type n => some (.ty n)
  | _ => none
theorem RelV.abs {x : V} {u : Value} (r : RelV x u) : absV u = some x := by
  cases x with
  | non => cases r; rfl
  | bl _ => cases r; rfl
  | int _ => obtain ⟨t, rfl⟩ := r; rfl
  | str _ => obtain ⟨t, rfl⟩ := r; rfl
  | byt _ => obtain ⟨t, rfl⟩ := r; rfl
  | flt _ => obtain ⟨t, rfl⟩ := r; rfl
  | ref _ => cases r; rfl
  | ty _ => cases r; rfl
theorem RelV.inj {x y : V} {u : Value} (r : RelV x u) (q : RelV y u) : x = y := Option.some.inj (r.abs.symm.trans q.abs)
theorem Vals.inj : ∀ {xs ys : List V} {us : List Value}, Vals xs us → Vals ys us → xs = ys
  | _, _, _, .nil, .nil => rfl
  | _, _, _, .cons r t, .cons r' t' => by rw [r.inj r', Vals.inj t t']
section
variable {X : Cx} {pins : List (Addr × Obj)} {σ : St} {H : Hp} {s : Shared} {a : Addr} {xs ys : List V}
theorem SqL.of {K : PySem.W.Frag} (h : H a = some (.lst xs)) : SqL K H a xs := .inl (.inl h)
theorem SqT.of {K : PySem.W.Frag} (h : H a = some (.tup xs)) : SqT K H a xs := .inl (.inl h)
theorem Inv.list (I : Inv X pins σ H s) (h : SqL X.K H a xs) : ∃ its : List Value, Vals xs its ∧ PlainL s.heap a its.toArray ∧ xs.length ≤ sizeLine := by
  rcases h with h | ⟨o, its, n, hk, hc, hd, hs, hz, r⟩
  · obtain ⟨z, its, n, r, e⟩ := h.ok I.hok
    exact ⟨its, r, ⟨_, n, e, rfl, rfl, rfl⟩, z⟩
  · refine ⟨its.toList, r, ⟨o, n, I.kIn a o hk, hc, hd, by simpa using hs⟩, ?_⟩
    have e := r.length
    simp only [Array.length_toList] at e
    omega
theorem Inv.tuple (I : Inv X pins σ H s) (h : SqT X.K H a xs) : ∃ its : List Value, Vals xs its ∧ IsTup s.heap a its.toArray ∧ xs.length ≤ sizeLine := by
  rcases h with h | ⟨o, its, n, hk, hc, _, hs, hz, r⟩
  · obtain ⟨z, its, n, r, p⟩ := h.ok I.hok
    exact ⟨its, r, ⟨_, p, rfl, n, rfl⟩, z⟩
  · refine ⟨its.toList, r, ⟨o, I.kIn a o hk, hc, n, by simpa using hs⟩, ?_⟩
    have e := r.length
    simp only [Array.length_toList] at e
    omega
theorem Inv.list_inj (I : Inv X pins σ H s) (h : SqL X.K H a xs) (h' : SqL X.K H a ys) : xs = ys := by
  obtain ⟨its, r, ⟨o, n, e, _, _, d⟩, _⟩ := I.list h
  obtain ⟨its', r', ⟨o', n', e', _, _, d'⟩, _⟩ := I.list h'
  rw [e] at e'; cases e'
  rw [d] at d'
  injection d' with d1 _
  have : its = its' := by simpa using congrArg Array.toList d1
  subst this
  exact r.inj r'
theorem Inv.tuple_inj (I : Inv X pins σ H s) (h : SqT X.K H a xs) (h' : SqT X.K H a ys) : xs = ys := by
  obtain ⟨its, r, ⟨o, e, _, n, d⟩, _⟩ := I.tuple h
  obtain ⟨its', r', ⟨o', e', _, n', d'⟩, _⟩ := I.tuple h'
  rw [e] at e'; cases e'
  rw [d] at d'
  injection d' with d1 _
  have : its = its' := by simpa using congrArg Array.toList d1
  subst this
  exact r.inj r'
end

abbrev Cx.wish (X : Cx) (E : Value → Shared → Prop) : Cx := { X with xe := E }
abbrev Cx.nox (X : Cx) : Cx := X.wish fun _ _ => False
theorem Cx.Ok.wish {X : Cx} (ok : X.Ok) (E : Value → Shared → Prop) : (X.wish E).Ok :=
  ⟨ok.mod, ok.kind, ok.glob, ok.blt, ok.above, ok.inj, ok.has, ok.cab, ok.hd, ok.frames, ok.stk, ok.exf, ok.bs, ok.bsz, ok.noex, ok.exfs, ok.funs, ok.frf⟩
theorem Cx.Ok.unwish {X : Cx} {E : Value → Shared → Prop} (ok : (X.wish E).Ok) : X.Ok :=
  ⟨ok.mod, ok.kind, ok.glob, ok.blt, ok.above, ok.inj, ok.has, ok.cab, ok.hd, ok.frames, ok.stk, ok.exf, ok.bs, ok.bsz, ok.noex, ok.exfs, ok.funs, ok.frf⟩
section
variable {X : Cx} {pins : List (Addr × Obj)} {σ : St} {H : Hp} {s : Shared} {E : Value → Shared → Prop}
theorem Inv.wish (I : Inv X pins σ H s) (E : Value → Shared → Prop) : Inv (X.wish E) pins σ H s := ⟨I.ok.wish E, I.os, I.bare, I.base, I.loc, I.cell, I.free, I.freeC, I.pin, I.hok, I.len⟩
theorem Inv.unwish (I : Inv (X.wish E) pins σ H s) : Inv X pins σ H s := ⟨I.ok.unwish, I.os, I.bare, I.base, I.loc, I.cell, I.free, I.freeC, I.pin, I.hok, I.len⟩
theorem SP.unwish {D : Ends} {f : Flow} {s' : Shared} (h : SP (X.wish E) pins D f s') : SP X pins D f s' := by
  cases f with
  | next => obtain ⟨σ', H', I, q⟩ := h; exact ⟨σ', H', I.unwish, q⟩
  | brk => obtain ⟨σ', H', I, q⟩ := h; exact ⟨σ', H', I.unwish, q⟩
  | cont => obtain ⟨σ', H', I, q⟩ := h; exact ⟨σ', H', I.unwish, q⟩
  | ret u => obtain ⟨v, σ', H', I, r, q⟩ := h; exact ⟨v, σ', H', I.unwish, r, q⟩
theorem PE.nox {e : Expr} {t : TE} (h : PE X.nox e t) : PE X e t := fun pins s σ H Q I hw =>
  wpAny_mono (h pins s σ H Q (I.wish _) hw) (fun _ _ ⟨v, H', I', r, q⟩ => ⟨v, H', I'.unwish, r, q⟩) fun _ _ z => False.elim z
theorem PT.nox {e : Expr} {t : TT} (h : PT X.nox e t) : PT X e t := fun pins s σ H Q I hw =>
  wpAny_mono (h pins s σ H Q (I.wish _) hw) (fun _ _ ⟨H', I', q⟩ => ⟨H', I'.unwish, q⟩) fun _ _ z => False.elim z
theorem PSs.nox {st : List Stmt} {t : TS} (h : PSs X.nox st t) : PSs X st t := fun pins s σ H D I hw =>
  wpAny_mono (h pins s σ H D (I.wish _) hw) (fun _ _ q => q.unwish) fun _ _ z => False.elim z
end

section
variable {X : Cx} {st : Stmt} {rest : List Stmt} {t u : TS} {e : Expr} {te : TE} {pos : Pos}
def tNext : TS := fun D σ H => D.nx σ H
def tSeq (t u : TS) : TS := fun D σ H => t { D with nx := u D } σ H
theorem pss_nil : PSs X [] tNext := fun _ _ σ H _ I h => wpAny_execs_nil ⟨σ, H, I, h⟩
theorem pss_cons (h1 : PS X st t) (h2 : PSs X rest u) : PSs X (st :: rest) (tSeq t u) := by
  intro pins s σ H D I h
  refine wpAny_execs_cons (thn (h1 pins s σ H { D with nx := u D } I h) fun f s1 q => ?_)
  cases f with
  | next =>
    obtain ⟨σ', H', I', q⟩ := q
    exact h2 pins s1 σ' H' D I' q
  | ret v => exact q
  | brk => exact q
  | cont => exact q
theorem pss_one (h1 : PS X st t) : PSs X [st] t := by
  intro pins s σ H D I h
  refine wpAny_execs_cons (thn (h1 pins s σ H D I h) fun f s1 q => ?_)
  cases f with
  | next => exact wpAny_execs_nil q
  | ret v => exact q
  | brk => exact q
  | cont => exact q
def tBreak : TS := fun D σ H => D.bk σ H
theorem ps_break : PS X (.Break pos) tBreak := fun _ _ σ H _ I h => wpAny_Break ⟨σ, H, I, h⟩
theorem Inv.quiet {pins : List (Addr × Obj)} {σ : St} {H : Hp} {s : Shared} (I : Inv X pins σ H s) : interactive X.env = false := by simp [interactive, I.ok.kind]
def tDrop (te : TE) : TS := fun D σ H => te σ H fun _ H1 => D.nx σ H1
theorem ps_expr (he : PE X e te) (hs : swapsWith e none pos.line X.env = pure false := by rfl) : PS X (.Expr e pos) (tDrop te) := by
  intro pins s σ H D I h
  exact wpAny_Expr_any (thn (he pins s σ H _ I h) fun v s1 ⟨x, H1, I1, r1, q1⟩ => ⟨σ, H1, I1, q1⟩) I.quiet hs
def tRet (te : TE) : TS := fun D σ H => te σ H D.rt
theorem ps_ret (he : PE X e te) : PS X (.Return (some e) pos) (tRet te) := by
  intro pins s σ H D I h
  exact wpAny_Return_some (thn (he pins s σ H _ I h) fun v s1 ⟨x, H1, I1, r1, q1⟩ => ⟨x, σ, H1, I1, r1, q1⟩)
def tIfS (c : TT) (t u : TS) : TS := fun D σ H => c σ H fun b H1 => if b = true then t D σ H1 else u D σ H1
theorem ps_if {c : Expr} {a b : List Stmt} {tc : TT} (hc : PT X c tc) (ha : PSs X a t) (hb : PSs X b u) : PS X (.If c a b pos) (tIfS tc t u) := by
  intro pins s σ H D I h
  refine wpAny_If (thn (hc pins s σ H _ I h) fun d s1 ⟨H1, I1, q1⟩ => ?_)
  cases d with
  | true => exact ha pins s1 σ H1 D I1 q1
  | false => exact hb pins s1 σ H1 D I1 q1
def tNever : TS := fun _ _ _ => False
theorem pss_never {sts : List Stmt} : PSs X sts tNever := fun _ _ _ _ _ _ h => h.elim
end

abbrev TG := V → St → Hp → (St → Hp → Prop) → Prop
abbrev TGs := List V → St → Hp → (St → Hp → Prop) → Prop
def PG (X : Cx) (target : Expr) (t : TG) : Prop :=
  ∀ (pins : List (Addr × Obj)) (s : Shared) (σ : St) (H : Hp) (v : V) (u : Value) (Q : St → Hp → Prop), Inv X pins σ H s → RelV v u → t v σ H Q →
    wpAny (model X.prog X.w) X.A (assign target X.env u) (fun _ s' => ∃ σ' H', Inv X pins σ' H' s' ∧ Q σ' H') X.xe s
def PGs (X : Cx) (ts : List Expr) (t : TGs) : Prop :=
  ∀ (pins : List (Addr × Obj)) (s : Shared) (σ : St) (H : Hp) (vs : List V) (us : List Value) (Q : St → Hp → Prop), Inv X pins σ H s → Vals vs us → t vs σ H Q →
    wpAny (model X.prog X.w) X.A (assignInOrder ((assignEach ts X.env).map (·.2)) us) (fun _ s' => ∃ σ' H', Inv X pins σ' H' s' ∧ Q σ' H') X.xe s
abbrev TSet := V → V → V → Hp → (Hp → Prop) → Prop
def PSet (X : Cx) (t : TSet) : Prop :=
  ∀ (pins : List (Addr × Obj)) (s : Shared) (σ : St) (H : Hp) (o i v : V) (ov iv u : Value) (Q : Hp → Prop), Inv X pins σ H s → RelV o ov → RelV i iv → RelV v u → t o i v H Q →
    wpAny (model X.prog X.w) X.A (setItem ov iv u) (fun _ s' => ∃ H', Inv X pins σ H' s' ∧ Q H') X.xe s
section
variable {X : Cx} {pos : Pos}
def gName (i : Nat) : TG := fun v σ H Q => Q (σ.set i (some v)) H
theorem pg_name {i : Nat} {x : Str} (hN : X.N.Nodup) (hi : X.N[i]? = some x) (hx : Loc X.env.scope x) (hf : X.fn x = true ∨ X.env.scope.names.lookup x = some .local := by first | exact .inl rfl | exact .inr rfl | assumption) : PG X (.Name x pos) (gName i) := by
  intro pins s σ H v u Q I r h
  exact wpAny_assign_Name (store_ok I hN hi hx r (fun s' I' => ⟨_, H, I', h⟩) hf)
def gNil : TGs := fun vs σ H Q => vs = [] ∧ Q σ H
def gCons (t : TG) (u : TGs) : TGs := fun vs σ H Q => ∃ v r, vs = v :: r ∧ t v σ H fun σ' H' => u r σ' H' Q
theorem pgs_nil : PGs X [] gNil := by
  intro pins s σ H vs us Q I r h
  obtain ⟨e, h⟩ := h
  subst e
  cases r
  exact assignInOrder_nil ⟨σ, H, I, h⟩
theorem pgs_cons {e : Expr} {es : List Expr} {t : TG} {u : TGs} (h1 : PG X e t) (h2 : PGs X es u)
    (hs : (assignEach (e :: es) X.env).map (·.2) = assign e X.env :: (assignEach es X.env).map (·.2) := by rfl) : PGs X (e :: es) (gCons t u) := by
  intro pins s σ H vs us Q I r h
  obtain ⟨v, vr, e1, h⟩ := h
  subst e1
  cases r with
  | cons r rr =>
    rw [hs]
    refine assignInOrder_cons (thn (h1 pins s σ H _ _ _ I r h) fun _ s1 ⟨σ1, H1, I1, q1⟩ => ?_)
    exact h2 pins s1 σ1 H1 _ _ Q I1 rr q1
def gTup (K : PySem.W.Frag) (n : Nat) (t : TGs) : TG := fun v σ H Q => ∃ a xs, v = .ref a ∧ SqT K H a xs ∧ xs.length = n ∧ t xs σ H Q
theorem pg_tup {es : List Expr} {k : Nat} {t : TGs} {n : Nat} (hc : X.calm = true) (h : PGs X es t)
    (hn : (assignEach es X.env).length = n := by rfl) (hst : (assignEach es X.env).findIdx? (·.1) = none := by rfl) : PG X (.Tuple es k pos) (gTup X.K n t) := by
  intro pins s σ H v u Q I r hw
  obtain ⟨a, xs, e1, hq, hl, hw⟩ := hw
  subst e1
  cases r
  obtain ⟨its, rv, ht, hz⟩ := I.tuple hq
  refine assign_Tuple_tuple (I.ok.hd hc) ht (by simp [hn, ← hl, rv.length]) hst fun h' hx => ?_
  have I1 : Inv X pins σ H { s with heap := h' } := I.kept (t' := s.toks) fun b o e => hx b o (Nat.ne_of_lt (Heap.lt_size e)) e
  exact h pins _ σ H xs _ Q I1 (by simpa using rv) hw
def gSub (to ti : TE) (t : TSet) : TG := fun v σ H Q => to σ H fun o H1 => ti σ H1 fun i H2 => t o i v H2 fun H3 => Q σ H3
theorem pg_sub {o i : Expr} {to ti : TE} {t : TSet} (ho : PE X o to) (hi : PE X i ti) (hs : PSet X t)
    (ha : ∀ v, assign (.Subscript o i pos) X.env v = (do
      let ov ← holding [v] (eval o X.env)
      let iv ← holding [v, ov] (eval i X.env)
      standAt pos
      holding [v, ov, iv] (setItem ov iv v)
      release [v, ov, iv] []) := by intro _; rfl) : PG X (.Subscript o i pos) (gSub to ti t) := by
  intro pins s σ H v u Q I r h
  rw [ha]
  refine wpAny_bind (wpAny_holding (thn (ho pins s σ H _ I h) fun ov s1 ⟨x, H1, I1, r1, q1⟩ => ?_))
  refine wpAny_bind (wpAny_holding (thn (hi pins s1 σ H1 _ I1 q1) fun iv s2 ⟨y, H2, I2, r2, q2⟩ => ?_))
  refine wpAny_bind (wpAny_standAt (wpAny_bind (wpAny_holding (thn (hs pins s2 σ H2 x y v ov iv u _ I2 r1 r2 r q2) fun _ s3 ⟨H3, I3, q3⟩ => ?_))))
  exact wpAny_release ⟨σ, H3, I3, q3⟩
def tAsg (te : TE) (g : TG) : TS := fun D σ H => te σ H fun x H1 => g x σ H1 D.nx
theorem ps_asg {tg e : Expr} {te : TE} {g : TG} (he : PE X e te) (hg : PG X tg g) (hs : swapsWithSole [tg] e pos.line X.env = pure false := by rfl) (hw : swappedStores [tg] e X.env = pure none := by rfl)
    (h1 : (assignEach [tg] X.env).map (·.2) = [assign tg X.env] := by rfl) : PS X (.Assign [tg] e pos) (tAsg te g) := by
  intro pins s σ H D I h
  refine wpAny_Assign_stores (thn (he pins s σ H _ I h) fun v s1 ⟨x, H1, I1, r1, q1⟩ => ?_) hs hw
  rw [h1]
  exact thn (hg pins s1 σ H1 x v _ I1 r1 q1) fun _ s2 q => q
theorem ps_set {i : Nat} {x : Str} {e : Expr} {te : TE} {pos' : Pos} (hN : X.N.Nodup) (hi : X.N[i]? = some x) (hx : Loc X.env.scope x) (he : PE X e te) (hs : swapsWith e (some (.Name x pos')) pos.line X.env = pure false := by rfl) (hf : X.fn x = true ∨ X.env.scope.names.lookup x = some .local := by first | exact .inl rfl | exact .inr rfl | assumption) :
    PS X (.Assign [.Name x pos'] e pos) (tAsg te (gName i)) := by
  intro pins s σ H D I h
  refine wpAny_Assign_Name (thn (he pins s σ H _ I h) fun v s1 ⟨y, H1, I1, r1, q1⟩ => ?_) hs
  exact store_ok I1 hN hi hx r1 (fun s2 I2 => ⟨_, H1, I2, q1⟩) hf
end

section
variable {X : Cx} {pos : Pos}
end

structure It where
  go : Nat → Hp → Prop
  yld : Nat → Hp → V → Hp → Prop
  stop : Nat → Hp → Prop
def FpOk (X : Cx) (pins : List (Addr × Obj)) (H : Hp) (b : Addr) : Prop :=
  H b = none ∧ b ≠ X.env.locals ∧ b ∉ X.fs ∧ (b ∈ X.ex ∨ X.s₀.heap.objs.size ≤ b) ∧ (∀ x c, X.env.cells.lookup x = some c → c ≠ b) ∧ ∀ p ∈ X.pn ++ pins, p.1 ≠ b
theorem Inv.fpOk {X : Cx} {pins : List (Addr × Obj)} {σ : St} {H H' : Hp} {s : Shared} {b : Addr} (I : Inv X pins σ H s) (hb : s.heap.objs.size ≤ b) (hn : H' b = none) : FpOk X pins H' b := by
  refine ⟨hn, Nat.ne_of_gt (Nat.lt_of_lt_of_le I.lt hb), I.nofs hb, .inr (Nat.le_trans I.sz hb), fun x c e z => ?_, fun p hp z => ?_⟩
  · obtain ⟨v, q⟩ := I.cell x c e
    exact absurd (Nat.lt_of_lt_of_le q.lt (by rw [z]; exact hb)) (Nat.lt_irrefl _)
  · exact absurd (Nat.lt_of_lt_of_le (Heap.lt_size (I.pin p hp).1) (by rw [z]; exact hb)) (Nat.lt_irrefl _)
structure Turn (P : Program) (w : World) (K : PySem.W.Frag) (tg : Expr) (J : It) (fp : List Addr) (it : Addr) (tn : Nat → Heap → Prop) : Prop where
  mem : it ∈ fp
  obj : ∀ i h, tn i h → ∀ b ∈ fp, ∃ o, h.get? b = some o ∧ ∀ v, o.data ≠ .cell v
  keep : ∀ i h h', tn i h → (∀ b ∈ fp, ∀ o, h.get? b = some o → h'.get? b = some o) → tn i h'
  item : ∀ (X : Cx), X.prog = P → X.w = w → X.K = K → X.calm = true → ∀ (i : Nat) (pins : List (Addr × Obj)) (s : Shared) (σ : St) (H : Hp) (E : Value → Shared → Prop), Inv X pins σ H s → (∀ b ∈ fp, FpOk X pins H b) → tn i s.heap → J.go i H →
    wpAny (model P w) X.A (pyNext (.ref it)) (fun r s1 => ∃ u, r = some u ∧
      wpAny (model P w) X.A (letOwnedTupleGo tg (.ref it) u) (fun _ s2 => ∃ x H', Inv X pins σ H' s2 ∧ RelV x u ∧ J.yld i H x H' ∧ tn (i + 1) s2.heap ∧ ∀ b ∈ fp, H' b = none) E s1) E s
  done : ∀ (X : Cx), X.prog = P → X.w = w → X.K = K → X.calm = true → ∀ (i : Nat) (pins : List (Addr × Obj)) (s : Shared) (σ : St) (H : Hp) (E : Value → Shared → Prop), Inv X pins σ H s → (∀ b ∈ fp, FpOk X pins H b) → tn i s.heap → J.stop i H →
    wpAny (model P w) X.A (pyNext (.ref it)) (fun r s1 => r = none ∧ Inv X pins σ H s1) E s
  self : ∀ (A : Around) (i : Nat) (s : Shared) (Q : Value → Shared → Prop) (E : Value → Shared → Prop), tn i s.heap → Q (.ref it) s → wpAny (model P w) A (pyIter (.ref it)) Q E s
abbrev TI := St → Hp → (It → Hp → Prop) → Prop
def PIE (X : Cx) (pins : List (Addr × Obj)) (σ : St) (tg : Expr) (R : It → Hp → Prop) (itv : Value) (s2 : Shared) : Prop :=
  ∃ (it : Addr) (fp : List Addr) (tn : Nat → Heap → Prop) (J : It) (H' : Hp), itv = .ref it ∧ Inv X pins σ H' s2 ∧ Turn X.prog X.w X.K tg J fp it tn ∧ tn 0 s2.heap ∧ (∀ b ∈ fp, FpOk X pins H' b) ∧ R J H'
def PI (X : Cx) (tg iter : Expr) (wi : TI) : Prop :=
  ∀ (pins : List (Addr × Obj)) (s : Shared) (σ : St) (H : Hp) (R : It → Hp → Prop), Inv X pins σ H s → wi σ H R →
    wpAny (model X.prog X.w) X.A (eval iter X.env) (fun v s1 => wpAny (model X.prog X.w) X.A (pyIter v) (PIE X pins σ tg R) X.xe s1) X.xe s

theorem go_of {M : Model} {A : Around} {E : Value → Shared → Prop} {s : Shared} {tg : Expr} {it : Addr} {u : Value} {o : Obj} {n : String} {vs : Array Value} {Q : Unit → Shared → Prop} (ho : s.heap.get? it = some o) (hc : o.cls = .type n) (hd : o.data = .fields vs)
    (hn : ["enumerate", "zip", "dict_itemiterator", "dict_reverseitemiterator", "odict_iterator", "itertools.zip_longest", "itertools.pairwise"].contains n = false) (hQ : Q () s) : wpAny M A (letOwnedTupleGo tg (.ref it) u) Q E s := by
  unfold letOwnedTupleGo
  cases tg <;> first
    | exact wpAny_pure hQ
    | (cases u <;> first
        | exact wpAny_pure hQ
        | (refine wpAny_bind (wpAny_load ho ?_)
           rw [hc, hd]
           show wpAny M A (if (["enumerate", "zip", "dict_itemiterator", "dict_reverseitemiterator", "odict_iterator", "itertools.zip_longest", "itertools.pairwise"].contains n && vs[0]? == some (rawInt _)) = true then _ else _) Q E s
           rw [if_neg (by intro h; rw [hn, Bool.false_and] at h; cases h)]
           exact wpAny_pure hQ))

def Itl (K : PySem.W.Frag) (a : Addr) : It :=
  ⟨fun i H => ∃ xs x, SqL K H a xs ∧ xs[i]? = some x, fun i H x H' => H' = H ∧ ∀ xs, SqL K H a xs → xs[i]? = some x, fun i H => ∃ xs, SqL K H a xs ∧ xs.length ≤ i⟩
def Itt (K : PySem.W.Frag) (a : Addr) : It :=
  ⟨fun i H => ∃ xs x, SqT K H a xs ∧ xs[i]? = some x, fun i H x H' => H' = H ∧ ∀ xs, SqT K H a xs → xs[i]? = some x, fun i H => ∃ xs, SqT K H a xs ∧ xs.length ≤ i⟩
def Itr (lo : Int) (n : Nat) : It := ⟨fun i _ => i < n, fun i H x H' => H' = H ∧ x = .int (lo + i), fun i _ => n ≤ i⟩
theorem turn_list {P : Program} {w : World} {K : PySem.W.Frag} {tg : Expr} (a it : Addr) : Turn P w K tg (Itl K a) [it] it (fun i h => h.IsListIter it a i) where
  mem := by simp
  obj := fun i h st b hb => by
    have e : b = it := by simpa using hb
    subst e
    obtain ⟨o, e, c, d⟩ := st
    exact ⟨o, e, fun v z => by rw [d] at z; cases z⟩
  keep := fun i h h' st k => st.at fun o e => k it (by simp) o e
  item := by
    intro X hP hw hK hc i pins s σ H E I hf st hg
    subst hP hw hK
    obtain ⟨xs, x, hq, hx⟩ := hg
    obtain ⟨its, rv, p, hz⟩ := I.list hq
    obtain ⟨u, hu, ru⟩ := rv.get hx
    obtain ⟨f0, f1, f2, f3, f4, f5⟩ := hf it (by simp)
    refine wpAny_pyNext_list_item st p.isList (x := u) (by simpa using hu) fun h' st' sb => ?_
    have I1 : Inv X pins σ H { s with heap := h' } := I.turned (t' := s.toks) (fun b o hb e => (sb.2 b hb).trans e) f0 f1 f3 f4 f5
    obtain ⟨o, e, c, d⟩ := id st'
    exact ⟨u, rfl, go_of (s := { s with heap := h' }) e c d (by decide) ⟨x, H, I1, ru, ⟨rfl, fun ys hy => by rw [I.list_inj hy hq]; exact hx⟩, st', fun b hb => (hf b hb).1⟩⟩
  done := by
    intro X hP hw hK hc i pins s σ H E I hf st hg
    subst hP hw hK
    obtain ⟨xs, hq, hx⟩ := hg
    obtain ⟨its, rv, p, hz⟩ := I.list hq
    obtain ⟨f0, f1, f2, f3, f4, f5⟩ := hf it (by simp)
    have hl := rv.length
    exact wpAny_pyNext_list_end (I.ok.hd hc) st p.isList (by simp; omega) fun h' eb => ⟨rfl, I.turned (t' := s.toks) (fun b o hb e => eb b o hb e) f0 f1 f3 f4 f5⟩
  self := fun _ _ _ _ _ st h => wpAny_pyIter_listiter st h
theorem turn_tuple {P : Program} {w : World} {K : PySem.W.Frag} {tg : Expr} (a it : Addr) : Turn P w K tg (Itt K a) [it] it (fun i h => h.IsTupleIter it a i) where
  mem := by simp
  obj := fun i h st b hb => by
    have e : b = it := by simpa using hb
    subst e
    obtain ⟨o, e, c, d⟩ := st
    exact ⟨o, e, fun v z => by rw [d] at z; cases z⟩
  keep := fun i h h' st k => st.at fun o e => k it (by simp) o e
  item := by
    intro X hP hw hK hc i pins s σ H E I hf st hg
    subst hP hw hK
    obtain ⟨xs, x, hq, hx⟩ := hg
    obtain ⟨its, rv, p, hz⟩ := I.tuple hq
    obtain ⟨u, hu, ru⟩ := rv.get hx
    obtain ⟨f0, f1, f2, f3, f4, f5⟩ := hf it (by simp)
    refine wpAny_pyNext_tuple_item st (show s.heap.IsTuple a its.toArray from p) (x := u) (by simpa using hu) fun h' st' sb => ?_
    have I1 : Inv X pins σ H { s with heap := h' } := I.turned (t' := s.toks) (fun b o hb e => (sb.2 b hb).trans e) f0 f1 f3 f4 f5
    obtain ⟨o, e, c, d⟩ := id st'
    exact ⟨u, rfl, go_of (s := { s with heap := h' }) e c d (by decide) ⟨x, H, I1, ru, ⟨rfl, fun ys hy => by rw [I.tuple_inj hy hq]; exact hx⟩, st', fun b hb => (hf b hb).1⟩⟩
  done := by
    intro X hP hw hK hc i pins s σ H E I hf st hg
    subst hP hw hK
    obtain ⟨xs, hq, hx⟩ := hg
    obtain ⟨its, rv, p, hz⟩ := I.tuple hq
    obtain ⟨f0, f1, f2, f3, f4, f5⟩ := hf it (by simp)
    have hl := rv.length
    exact wpAny_pyNext_tuple_end (I.ok.hd hc) st (show s.heap.IsTuple a its.toArray from p) (by simp; omega) fun h' eb => ⟨rfl, I.turned (t' := s.toks) (fun b o hb e => eb b o hb e) f0 f1 f3 f4 f5⟩
  self := fun _ _ _ _ _ st h => wpAny_pyIter_tupleiter st h
theorem turn_range {P : Program} {w : World} {K : PySem.W.Frag} {tg : Expr} (it : Addr) (lo : Int) (n : Nat) : Turn P w K tg (Itr lo n) [it] it (fun i h => IsRangeIter h it (lo + (i : Nat) * 1) ((n : Int) - (i : Nat)) 1) where
  mem := by simp
  obj := fun i h st b hb => by
    have e : b = it := by simpa using hb
    subst e
    exact ⟨_, st, fun v z => by
      have z' : Data.fields _ = Data.cell v := z
      cases z'⟩
  keep := fun i h h' st k => k it (by simp) _ st
  item := by
    intro X hP hw hK hc i pins s σ H E I hf st hg
    subst hP hw hK
    obtain ⟨f0, f1, f2, f3, f4, f5⟩ := hf it (by simp)
    have W := Walks.range (prog := X.prog) (w := X.w) (I.ok.hd hc) it lo 1 n
    refine W.item i s _ _ hg st fun v h' tk hv st' kk => ?_
    obtain ⟨t, rfl⟩ := hv
    have I1 : Inv X pins σ H { s with heap := h', toks := tk } := I.turned (fun b o hb e => kk b o (by simpa using hb) e) f0 f1 f3 f4 f5
    refine ⟨_, rfl, go_of (s := { s with heap := h', toks := tk }) (n := "range_iterator") st' rfl rfl (by decide) ⟨.int (lo + i), H, I1, ⟨t, ?_⟩, ⟨rfl, rfl⟩, st', fun b hb => (hf b hb).1⟩⟩
    rw [Int.mul_one]
  done := by
    intro X hP hw hK hc i pins s σ H E I hf st hg
    subst hP hw hK
    obtain ⟨f0, f1, f2, f3, f4, f5⟩ := hf it (by simp)
    exact wpAny_pyNext_range_end (I.ok.hd hc) st (by have : n ≤ i := hg; omega) fun h' eb => ⟨rfl, I.turned (t' := s.toks) (fun b o hb e => eb b o hb e) f0 f1 f3 f4 f5⟩
  self := fun _ _ _ _ _ st h => wpAny_pyIter_rangeiter st h
end L2

namespace L2
open PySem PySem.Spec PyProof.Rows
section
variable {X : Cx} {tg : Expr}
def iList (K : PySem.W.Frag) (tl : TE) : TI := fun σ H R => tl σ H fun x H1 => ∃ a, x = .ref a ∧ (∃ xs, SqL K H1 a xs) ∧ R (Itl K a) H1
def iTup (K : PySem.W.Frag) (tl : TE) : TI := fun σ H R => tl σ H fun x H1 => ∃ a, x = .ref a ∧ (∃ xs, SqT K H1 a xs) ∧ R (Itt K a) H1
theorem pi_list {l : Expr} {tl : TE} (hl : PE X l tl) : PI X tg l (iList X.K tl) := by
  intro pins s σ H R I h
  refine thn (hl pins s σ H _ I h) fun v s1 ⟨x, H1, I1, r1, q1⟩ => ?_
  obtain ⟨a, e, ⟨xs, hq⟩, q⟩ := q1
  subst e
  cases r1
  obtain ⟨its, rv, p, hz⟩ := I1.list hq
  refine wpAny_pyIter_list p.isList ?_
  refine ⟨s1.heap.objs.size, [s1.heap.objs.size], _, _, H1, rfl, I1.kept (t' := s1.toks) fun b o e => Heap.get?_push_of_some _ e, turn_list a _, ⟨_, Heap.get?_push_size _ rfl, rfl, rfl⟩, fun b hb => ?_, q⟩
  have e : b = s1.heap.objs.size := by simpa using hb
  subst e
  exact I1.fpOk (Nat.le_refl _) (I1.hok.fresh (Nat.le_refl _))
theorem pi_tup {l : Expr} {tl : TE} (hl : PE X l tl) : PI X tg l (iTup X.K tl) := by
  intro pins s σ H R I h
  refine thn (hl pins s σ H _ I h) fun v s1 ⟨x, H1, I1, r1, q1⟩ => ?_
  obtain ⟨a, e, ⟨xs, hq⟩, q⟩ := q1
  subst e
  cases r1
  obtain ⟨its, rv, p, hz⟩ := I1.tuple hq
  refine wpAny_pyIter_tuple (show s1.heap.IsTuple a its.toArray from p) ?_
  refine ⟨s1.heap.objs.size, [s1.heap.objs.size], _, _, H1, rfl, I1.kept (t' := s1.toks) fun b o e => Heap.get?_push_of_some _ e, turn_tuple a _, ⟨_, Heap.get?_push_size _ rfl, rfl, rfl⟩, fun b hb => ?_, q⟩
  have e : b = s1.heap.objs.size := by simpa using hb
  subst e
  exact I1.fpOk (Nat.le_refl _) (I1.hok.fresh (Nat.le_refl _))
theorem range_it {pins : List (Addr × Obj)} {σ : St} {H : Hp} {s : Shared} {R : It → Hp → Prop} {E : Value → Shared → Prop} {lo hi : Int} {t u v : Tok} {tk : Nat} (I : Inv X pins σ H s) (h1 : -(2 ^ 62) ≤ lo) (h2 : lo < 2 ^ 62) (h3 : -(2 ^ 62) ≤ hi) (h4 : hi < 2 ^ 62)
    (q : R (Itr lo (hi - lo).toNat) H) : wpAny (model X.prog X.w) X.A (pyIter (.ref s.heap.objs.size)) (PIE X pins σ tg R) E { s with heap := s.heap.push { cls := .type "range", data := .fields #[.int lo t, .int hi u, .int 1 v] }, toks := tk } := by
  refine wpAny_pyIter_range (IsRange.new ..) (small_one h1 h2 h3 h4) ?_
  have I1 : Inv X pins σ H { s with heap := s.heap.push { cls := .type "range", data := .fields #[.int lo t, .int hi u, .int 1 v] }, toks := tk } := I.kept fun b o e => Heap.get?_push_of_some _ e
  refine ⟨(s.heap.push { cls := .type "range", data := .fields #[.int lo t, .int hi u, .int 1 v] }).objs.size, [(s.heap.push { cls := .type "range", data := .fields #[.int lo t, .int hi u, .int 1 v] }).objs.size], _, _, H, rfl,
    I1.kept (t' := tk) fun b o e => Heap.get?_push_of_some _ e, turn_range _ lo (hi - lo).toNat, ?_, fun b hb => ?_, q⟩
  · have e1 : lo + ((0 : Nat) : Int) * 1 = lo := by simp
    have e2 : (((hi - lo).toNat : Nat) : Int) - ((0 : Nat) : Int) = Builtin.Range.rangeSize lo hi 1 := by rw [rangeSize_one]; split <;> omega
    show IsRangeIter _ _ (lo + ((0 : Nat) : Int) * 1) ((((hi - lo).toNat : Nat) : Int) - ((0 : Nat) : Int)) 1
    rw [e1, e2]
    exact Heap.get?_push_size _ rfl
  · have e : b = (s.heap.push { cls := .type "range", data := .fields #[.int lo t, .int hi u, .int 1 v] }).objs.size := by simpa using hb
    subst e
    exact I1.fpOk (Nat.le_refl _) (I1.hok.fresh (Nat.le_refl _))
def iRng1 (ta : TA) : TI := fun σ H R => ta σ H fun vs H1 => ∃ j : Int, vs = [.int j] ∧ -(2 ^ 62) ≤ j ∧ j < 2 ^ 62 ∧ R (Itr 0 j.toNat) H1
theorem pi_range1 {a : Expr} {ta : TA} {p pos : Pos} (hg : Gl X "range") (hm : X.mg "range" = none) (ha : PA X [a] ta) (hs : starEach [a] X.env = [(false, eval a X.env)] := by rfl) : PI X tg (.Call (.Name "range" p) [a] [] pos) (iRng1 ta) := by
  intro pins s σ H R I h
  refine Call_ (ld_blt I hg hm boot_range (PyProof.Rows.callWith_type1 (thn (ha pos pins s σ H _ I h) fun us s1 ⟨vs, H1, I1, r1, q1⟩ => ?_) hs rfl))
  obtain ⟨j, e, q1, q2, q⟩ := q1
  subst e
  cases r1 with
  | cons r rr =>
    cases rr
    obtain ⟨t, rfl⟩ := r
    exact call_range_1 (range_it I1 (by omega) (by omega) q1 q2 (by simpa using q))
def tFor (wi : TI) (g : TG) (tb : TS) : TS := fun D σ H => wi σ H fun J H1 => ∃ W : Nat → Nat → St → Hp → Prop, (∃ m, W 0 m σ H1) ∧ ∀ i m σ H, W i m σ H →
  (J.stop i H ∧ D.nx σ H) ∨ (J.go i H ∧ ∃ N : St → Hp → Prop, (∀ σ' H', N σ' H' → ∃ m', m' < m ∧ W (i + 1) m' σ' H') ∧ ∀ x H', J.yld i H x H' → g x σ H' fun σ2 H2 => tb { D with nx := N, ct := N, bk := D.nx } σ2 H2)
def pinsAt (fp : List Addr) (h : Heap) : List (Addr × Obj) := fp.filterMap fun b => (h.get? b).map fun o => (b, o)
theorem mem_pinsAt {fp : List Addr} {h : Heap} {b : Addr} {o : Obj} (hb : b ∈ fp) (e : h.get? b = some o) : (b, o) ∈ pinsAt fp h := List.mem_filterMap.mpr ⟨b, hb, by rw [e]; rfl⟩
theorem of_pinsAt {fp : List Addr} {h : Heap} {p : Addr × Obj} (hp : p ∈ pinsAt fp h) : p.1 ∈ fp ∧ h.get? p.1 = some p.2 := by
  obtain ⟨b, hb, e⟩ := List.mem_filterMap.mp hp
  cases q : h.get? b with
  | none => rw [q] at e; cases e
  | some o =>
    rw [q] at e
    have e' : (b, o) = p := Option.some.inj e
    subst e'
    exact ⟨hb, q⟩
theorem Inv.pinned {pins : List (Addr × Obj)} {σ : St} {H : Hp} {s : Shared} {fp : List Addr} (I : Inv X pins σ H s) (hf : ∀ b ∈ fp, FpOk X pins H b) (ho : ∀ b ∈ fp, ∃ o, s.heap.get? b = some o ∧ ∀ v, o.data ≠ .cell v) : Inv X (pins ++ pinsAt fp s.heap) σ H s :=
  I.pins_of fun p hp => (List.mem_append.mp hp).elim (fun z => I.pin p (List.mem_append_right _ z)) fun z => by
    obtain ⟨hb, e⟩ := of_pinsAt z
    obtain ⟨f0, f1, f2, _⟩ := hf p.1 hb
    obtain ⟨o, e', d⟩ := ho p.1 hb
    rw [e] at e'; cases e'
    exact ⟨e, f0, f1, f2, d⟩
theorem Inv.unpinned {pins pl : List (Addr × Obj)} {σ : St} {H : Hp} {s : Shared} (I : Inv X (pins ++ pl) σ H s) : Inv X pins σ H s := I.pins_of fun p hp => I.pin p (List.mem_append_right _ (List.mem_append_left _ hp))
theorem ps_for {iter : Expr} {body : List Stmt} {wi : TI} {g : TG} {tb : TS} {pos : Pos} (hp : PassesOwn (model X.prog X.w) X.A X.env X.xe) (hc : X.calm = true) (hi : PI X tg iter wi) (hg : PG X tg g) (hb : PSs X body tb)
    (hs : ∀ x, foldedSetIterable iter X.env x = pure x := by intro _; rfl) : PS X (.For tg iter body [] pos) (tFor wi g tb) := by
  intro pins s σ H D I h
  refine wpAny_For (thn (hi pins s σ H _ I h) fun v s1 h1 => thn h1 fun itv s2 h2 => ?_) hs
  obtain ⟨it, fp, tn, J, H2, e, I2, T, st2, f2, W, ⟨m0, w0⟩, turn⟩ := h2
  subst e
  -- what stays true of the iterator's objects through the loop
  have stat : ∀ {H' : Hp}, (∀ b ∈ fp, H' b = none) → ∀ b ∈ fp, FpOk X pins H' b := fun hn b hb => ⟨hn b hb, (f2 b hb).2⟩
  refine codeAny_forLoop_any (fun n s' => ∃ i σ' H', Inv X pins σ' H' s' ∧ tn i s'.heap ∧ (∀ b ∈ fp, H' b = none) ∧ W i n σ' H') ?_ m0 ⟨0, σ, H2, I2, st2, fun b hb => (f2 b hb).1, w0⟩
  rintro n s3 ⟨i, σ3, H3, I3, st3, fr3, w3⟩
  rcases turn i n σ3 H3 w3 with ⟨stop, qn⟩ | ⟨go, N, hN, step⟩
  · refine wpAny_passesOwn hp (thn (T.done X rfl rfl rfl hc i pins s3 σ3 H3 X.xe I3 (stat fr3) st3 stop) fun r s4 ⟨hr, I4⟩ => ?_)
    subst hr
    exact wpAny_execs_nil ⟨σ3, H3, I4, qn⟩
  · refine wpAny_passesOwn hp (thn (T.item X rfl rfl rfl hc i pins s3 σ3 H3 X.xe I3 (stat fr3) st3 go) fun r s4 ⟨u, hr, h4⟩ => ?_)
    subst hr
    refine wpAny_passesOwn hp (thn h4 fun _ s5 ⟨x, H5, I5, r5, y5, st5, fr5⟩ => ?_)
    have I5' := I5.pinned (stat fr5) (T.obj _ _ st5)
    refine wpAny_passesOwn hp (thn (hg _ s5 σ3 H5 x u _ I5' r5 (step x H5 y5)) fun _ s6 ⟨σ6, H6, I6, q6⟩ => ?_)
    refine wpAny_passesOwn hp (thn (hb _ s6 σ6 H6 _ I6 q6) fun f s7 q7 => ?_)
    have again : ∀ {σ7 : St} {H7 : Hp}, Inv X (pins ++ pinsAt fp s5.heap) σ7 H7 s7 → N σ7 H7 → ∃ m, m < n ∧ ∃ i σ' H', Inv X pins σ' H' s7 ∧ tn i s7.heap ∧ (∀ b ∈ fp, H' b = none) ∧ W i m σ' H' := fun {σ7 H7} I7 n7 => by
      obtain ⟨m', hm, w7⟩ := hN σ7 H7 n7
      refine ⟨m', hm, i + 1, σ7, H7, I7.unpinned, T.keep _ _ _ st5 fun b hb o e => (I7.pin (b, o) (List.mem_append_right _ (List.mem_append_right _ (mem_pinsAt hb e)))).1, fun b hb => ?_, w7⟩
      obtain ⟨o, e, d⟩ := T.obj _ _ st5 b hb
      exact (I7.pin (b, o) (List.mem_append_right _ (List.mem_append_right _ (mem_pinsAt hb e)))).2.1
    cases f with
    | next => obtain ⟨σ7, H7, I7, n7⟩ := q7; exact again I7 n7
    | cont => obtain ⟨σ7, H7, I7, n7⟩ := q7; exact again I7 n7
    | brk => obtain ⟨σ7, H7, I7, q7⟩ := q7; exact ⟨σ7, H7, I7.unpinned, q7⟩
    | ret v => obtain ⟨x7, σ7, H7, I7, r7, q7⟩ := q7; exact ⟨x7, σ7, H7, I7.unpinned, r7, q7⟩
end

theorem for_list {K : PySem.W.Frag} {a : Addr} {xs : List V} {g : TG} {tb : TS} {D : Ends} {σ : St} {H : Hp} (Pv : Nat → St → Hp → Prop) (h0 : Pv 0 σ H) (hl : ∀ i σ H, i ≤ xs.length → Pv i σ H → SqL K H a xs)
    (hs : ∀ i x σ H, xs[i]? = some x → Pv i σ H → g x σ H fun σ2 H2 => tb { D with nx := Pv (i + 1), ct := Pv (i + 1), bk := D.nx } σ2 H2) (hd : ∀ σ H, Pv xs.length σ H → D.nx σ H) :
    ∃ W : Nat → Nat → St → Hp → Prop, (∃ m, W 0 m σ H) ∧ ∀ i m σ H, W i m σ H →
      ((Itl K a).stop i H ∧ D.nx σ H) ∨ ((Itl K a).go i H ∧ ∃ N : St → Hp → Prop, (∀ σ' H', N σ' H' → ∃ m', m' < m ∧ W (i + 1) m' σ' H') ∧ ∀ x H', (Itl K a).yld i H x H' → g x σ H' fun σ2 H2 => tb { D with nx := N, ct := N, bk := D.nx } σ2 H2) := by
  refine ⟨fun i m σ H => m = xs.length - i ∧ i ≤ xs.length ∧ Pv i σ H, ⟨xs.length, by simp, Nat.zero_le _, h0⟩, ?_⟩
  rintro i m σ H ⟨rfl, hi, p⟩
  have q := hl i σ H hi p
  by_cases hlt : i < xs.length
  · refine .inr ⟨⟨xs, xs[i], q, by simp [hlt]⟩, Pv (i + 1), fun σ' H' p' => ⟨xs.length - (i + 1), by omega, rfl, hlt, p'⟩, fun x H' y => ?_⟩
    obtain ⟨e, y⟩ := y
    subst e
    exact hs i x σ _ (y xs q) p
  · have e : i = xs.length := by omega
    subst e
    exact .inl ⟨⟨xs, q, Nat.le_refl _⟩, hd σ H p⟩
theorem for_tup {K : PySem.W.Frag} {a : Addr} {xs : List V} {g : TG} {tb : TS} {D : Ends} {σ : St} {H : Hp} (Pv : Nat → St → Hp → Prop) (h0 : Pv 0 σ H) (hl : ∀ i σ H, i ≤ xs.length → Pv i σ H → SqT K H a xs)
    (hs : ∀ i x σ H, xs[i]? = some x → Pv i σ H → g x σ H fun σ2 H2 => tb { D with nx := Pv (i + 1), ct := Pv (i + 1), bk := D.nx } σ2 H2) (hd : ∀ σ H, Pv xs.length σ H → D.nx σ H) :
    ∃ W : Nat → Nat → St → Hp → Prop, (∃ m, W 0 m σ H) ∧ ∀ i m σ H, W i m σ H →
      ((Itt K a).stop i H ∧ D.nx σ H) ∨ ((Itt K a).go i H ∧ ∃ N : St → Hp → Prop, (∀ σ' H', N σ' H' → ∃ m', m' < m ∧ W (i + 1) m' σ' H') ∧ ∀ x H', (Itt K a).yld i H x H' → g x σ H' fun σ2 H2 => tb { D with nx := N, ct := N, bk := D.nx } σ2 H2) := by
  refine ⟨fun i m σ H => m = xs.length - i ∧ i ≤ xs.length ∧ Pv i σ H, ⟨xs.length, by simp, Nat.zero_le _, h0⟩, ?_⟩
  rintro i m σ H ⟨rfl, hi, p⟩
  have q := hl i σ H hi p
  by_cases hlt : i < xs.length
  · refine .inr ⟨⟨xs, xs[i], q, by simp [hlt]⟩, Pv (i + 1), fun σ' H' p' => ⟨xs.length - (i + 1), by omega, rfl, hlt, p'⟩, fun x H' y => ?_⟩
    obtain ⟨e, y⟩ := y
    subst e
    exact hs i x σ _ (y xs q) p
  · have e : i = xs.length := by omega
    subst e
    exact .inl ⟨⟨xs, q, Nat.le_refl _⟩, hd σ H p⟩
theorem for_range {lo : Int} {n : Nat} {g : TG} {tb : TS} {D : Ends} {σ : St} {H : Hp} (Pv : Nat → St → Hp → Prop) (h0 : Pv 0 σ H)
    (hs : ∀ i σ H, i < n → Pv i σ H → g (.int (lo + i)) σ H fun σ2 H2 => tb { D with nx := Pv (i + 1), ct := Pv (i + 1), bk := D.nx } σ2 H2) (hd : ∀ σ H, Pv n σ H → D.nx σ H) :
    ∃ W : Nat → Nat → St → Hp → Prop, (∃ m, W 0 m σ H) ∧ ∀ i m σ H, W i m σ H →
      ((Itr lo n).stop i H ∧ D.nx σ H) ∨ ((Itr lo n).go i H ∧ ∃ N : St → Hp → Prop, (∀ σ' H', N σ' H' → ∃ m', m' < m ∧ W (i + 1) m' σ' H') ∧ ∀ x H', (Itr lo n).yld i H x H' → g x σ H' fun σ2 H2 => tb { D with nx := N, ct := N, bk := D.nx } σ2 H2) := by
  refine ⟨fun i m σ H => m = n - i ∧ i ≤ n ∧ Pv i σ H, ⟨n, by simp, Nat.zero_le _, h0⟩, ?_⟩
  rintro i m σ H ⟨rfl, hi, p⟩
  by_cases hlt : i < n
  · refine .inr ⟨hlt, Pv (i + 1), fun σ' H' p' => ⟨n - (i + 1), by omega, rfl, hlt, p'⟩, fun x H' y => ?_⟩
    obtain ⟨e, y⟩ := y
    subst e y
    exact hs i σ _ hlt p
  · have e : i = n := by omega
    subst e
    exact .inl ⟨Nat.le_refl _, hd σ H p⟩
end L2

namespace L2
open PySem PySem.Spec PyProof.Rows

abbrev R2 := V → V → Hp → VK → Prop
def OpR (X : Cx) (f : Value → Value → Sem Value) (r : R2) : Prop :=
  ∀ (pins : List (Addr × Obj)) (s : Shared) (σ : St) (H : Hp) (x y : V) (v u : Value) (Q : VK), Inv X pins σ H s → RelV x v → RelV y u → r x y H Q →
    wpAny (model X.prog X.w) X.A (f v u) (EP X pins σ Q) X.xe s
def UnR (X : Cx) (f : Value → Sem Value) (r : V → Hp → VK → Prop) : Prop :=
  ∀ (pins : List (Addr × Obj)) (s : Shared) (σ : St) (H : Hp) (x : V) (v : Value) (Q : VK), Inv X pins σ H s → RelV x v → r x H Q →
    wpAny (model X.prog X.w) X.A (f v) (EP X pins σ Q) X.xe s
def CallR (X : Cx) (f : Value) (r : List V → Hp → VK → Prop) : Prop :=
  ∀ (pins : List (Addr × Obj)) (s : Shared) (σ : St) (H : Hp) (xs : List V) (us : List Value) (Q : VK), Inv X pins σ H s → Vals xs us → r xs H Q →
    wpAny (model X.prog X.w) X.A (call f us) (EP X pins σ Q) X.xe s
def tOp (r : R2) (ta tb : TE) : TE := fun σ H Q => ta σ H fun x H1 => tb σ H1 fun y H2 => r x y H2 Q
def tUn (r : V → Hp → VK → Prop) (ta : TE) : TE := fun σ H Q => ta σ H fun x H1 => r x H1 Q
def rI (C : Int → Int → Prop) (g : Int → Int → V) : R2 := fun x y H Q => ∃ i j, x = .int i ∧ y = .int j ∧ C i j ∧ Q (g i j) H
def rI0 (g : Int → Int → V) : R2 := fun x y H Q => ∃ i j, x = .int i ∧ y = .int j ∧ Q (g i j) H
def rU (g : Int → V) : V → Hp → VK → Prop := fun x H Q => ∃ i, x = .int i ∧ Q (g i) H

section
variable {X : Cx} {a b c : Expr} {ta tb tc : TE} {pos : Pos}

theorem binT (ha : PE X a ta) (hb : PE X b tb) {pins : List (Addr × Obj)} {s : Shared} {σ : St} {H : Hp} {R : V → V → Hp → Prop} (I : Inv X pins σ H s)
    (h : ta σ H fun x H1 => tb σ H1 fun y H2 => R x y H2) {Q : Value → Shared → Prop} {f : Value → Value → Sem Value}
    (hf : ∀ v u s2 x y H2, Inv X pins σ H2 s2 → RelV x v → RelV y u → R x y H2 → wpAny (model X.prog X.w) X.A (f v u) Q X.xe s2) :
    wpAny (model X.prog X.w) X.A (eval a X.env) (fun v s₁ => wpAny (model X.prog X.w) X.A (eval b X.env) (fun u s₂ => wpAny (model X.prog X.w) X.A (f v u) Q X.xe s₂) X.xe s₁) X.xe s := by
  refine thn (ha pins s σ H _ I h) fun v s1 ⟨x, H1, I1, r1, q1⟩ => ?_
  refine thn (hb pins s1 σ H1 _ I1 q1) fun u s2 ⟨y, H2, I2, r2, q2⟩ => ?_
  exact hf v u s2 x y H2 I2 r1 r2 q2

theorem pe_op {op : Operator} {r : R2} (ho : OpR X (binaryOp op) r) (ha : PE X a ta) (hb : PE X b tb) : PE X (.BinOp a op b pos) (tOp r ta tb) := by
  intro pins s σ H Q I h
  exact wpAny_BinOp (binT ha hb I h fun v u s2 x y H2 I2 rx ry q => ho pins s2 σ H2 x y v u Q I2 rx ry q)
theorem pe_un {op : UnaryOp} {r : V → Hp → VK → Prop} (ho : UnR X (unaryOp op) r) (ha : PE X a ta) : PE X (.UnaryOp op a pos) (tUn r ta) := by
  intro pins s σ H Q I h
  exact UnaryOp_ (thn (ha pins s σ H _ I h) fun v s1 ⟨x, H1, I1, r1, q1⟩ => ho pins s1 σ H1 x v Q I1 r1 q1)
theorem opI {f : Value → Value → Sem Value} {C : Int → Int → Prop} {g : Int → Int → Int}
    (rule : ∀ (i j : Int) (t u : Tok) (s : Shared) (Q : Value → Shared → Prop) (E : Value → Shared → Prop), C i j → Q (.int (g i j) s.toks) { s with toks := s.toks + 1 } → wpAny (model X.prog X.w) X.A (f (.int i t) (.int j u)) Q E s) :
    OpR X f (rI C fun i j => .int (g i j)) := by
  intro pins s σ H x y v u Q I rx ry h
  obtain ⟨i, j, rfl, rfl, hc, q⟩ := h
  obtain ⟨t, rfl⟩ := rx
  obtain ⟨t', rfl⟩ := ry
  exact rule i j t t' s _ _ hc ⟨.int (g i j), H, I.tok _, ⟨_, rfl⟩, q⟩
theorem opI0 {f : Value → Value → Sem Value} {g : Int → Int → Int}
    (rule : ∀ (i j : Int) (t u : Tok) (s : Shared) (Q : Value → Shared → Prop) (E : Value → Shared → Prop), Q (.int (g i j) s.toks) { s with toks := s.toks + 1 } → wpAny (model X.prog X.w) X.A (f (.int i t) (.int j u)) Q E s) :
    OpR X f (rI0 fun i j => .int (g i j)) := by
  intro pins s σ H x y v u Q I rx ry h
  obtain ⟨i, j, rfl, rfl, q⟩ := h
  obtain ⟨t, rfl⟩ := rx
  obtain ⟨t', rfl⟩ := ry
  exact rule i j t t' s _ _ ⟨.int (g i j), H, I.tok _, ⟨_, rfl⟩, q⟩
theorem opB0 {f : Value → Value → Sem Value} {g : Int → Int → Bool}
    (rule : ∀ (i j : Int) (t u : Tok) (s : Shared) (Q : Value → Shared → Prop) (E : Value → Shared → Prop), Q (.bool (g i j)) s → wpAny (model X.prog X.w) X.A (f (.int i t) (.int j u)) Q E s) :
    OpR X f (rI0 fun i j => .bl (g i j)) := by
  intro pins s σ H x y v u Q I rx ry h
  obtain ⟨i, j, rfl, rfl, q⟩ := h
  obtain ⟨t, rfl⟩ := rx
  obtain ⟨t', rfl⟩ := ry
  exact rule i j t t' s _ _ ⟨.bl (g i j), H, I, rfl, q⟩

def CPow (i j : Int) : Prop := 0 ≤ j ∧ j ≤ 1000000 ∧ i.natAbs < 2 ^ 64
def CMul (i j : Int) : Prop := (-(2 ^ 64) < i ∧ i < 2 ^ 64) ∨ (-(2 ^ 64) < j ∧ j < 2 ^ 64)
theorem CMul.ok {i j : Int} (h : CMul i j) : IntMulOk i j := by
  rcases h with ⟨h1, h2⟩ | ⟨h1, h2⟩
  · exact .of_left (intBits_le_64 h1 h2)
  · exact .of_right (intBits_le_64 h1 h2)
theorem op_add : OpR X (binaryOp .Add) (rI0 fun i j => .int (i + j)) := opI0 fun _ _ _ _ _ _ _ q => add_int q
theorem op_sub : OpR X (binaryOp .Sub) (rI0 fun i j => .int (i - j)) := opI0 fun _ _ _ _ _ _ _ q => sub_int q
theorem op_mul : OpR X (binaryOp .Mult) (rI CMul fun i j => .int (i * j)) := opI fun _ _ _ _ _ _ _ hc q => mul_int q hc.ok
theorem op_mod : OpR X (binaryOp .Mod) (rI (fun _ j => 0 < j) fun i j => .int (i % j)) := opI fun i j _ _ _ _ _ hc q => by
  have h1 : (0 : Int) < j := hc
  exact mod_int' (by omega) (by rw [Int.fmod_eq_emod_of_nonneg i (by omega)]; exact q)
theorem op_pow : OpR X (binaryOp .Pow) (rI CPow fun i j => .int (i ^ j.toNat)) := opI fun _ _ _ _ _ _ _ hc q => pow_int_small hc.1 hc.2.1 hc.2.2 q
theorem unI {f : Value → Sem Value} {g : Int → Int}
    (rule : ∀ (i : Int) (t : Tok) (s : Shared) (Q : Value → Shared → Prop) (E : Value → Shared → Prop), Q (.int (g i) s.toks) { s with toks := s.toks + 1 } → wpAny (model X.prog X.w) X.A (f (.int i t)) Q E s) :
    UnR X f (rU fun i => .int (g i)) := by
  intro pins s σ H x v Q I rx h
  obtain ⟨i, rfl, q⟩ := h
  obtain ⟨t, rfl⟩ := rx
  exact rule i t s _ _ ⟨.int (g i), H, I.tok _, ⟨_, rfl⟩, q⟩
theorem un_neg : UnR X (unaryOp .USub) (rU fun i => .int (-i)) := unI fun _ _ _ _ _ q => neg_int q
end

def scal : V → V → Bool
  | .non, .non => true | .non, .int _ => true | .int _, .non => true | .non, .bl _ => true | .bl _, .non => true | .non, .str _ => true | .str _, .non => true
  | .int _, .int _ => true | .bl _, .bl _ => true | .str _, .str _ => true | .byt _, .byt _ => true
  | .int _, .str _ => true | .str _, .int _ => true | .bl _, .str _ => true | .str _, .bl _ => true
  | _, _ => false
def rEq : R2 := fun x y H Q => scal x y = true ∧ Q (.bl (decide (x = y))) H
def rNe : R2 := fun x y H Q => scal x y = true ∧ Q (.bl (!decide (x = y))) H

theorem dec_int {i j : Int} : decide (V.int i = V.int j) = (i == j) := by
  rw [Bool.eq_iff_iff]
  simp
theorem dec_bl {i j : Bool} : decide (V.bl i = V.bl j) = (i == j) := by
  rw [Bool.eq_iff_iff]
  simp
theorem dec_str {i j : Str} : decide (V.str i = V.str j) = (i == j) := by
  rw [Bool.eq_iff_iff]
  simp
theorem dec_byt {i j : Array UInt8} : decide (V.byt i = V.byt j) = (i.toList == j.toList) := by
  rw [Bool.eq_iff_iff]
  cases i
  cases j
  simp

section
variable {X : Cx} {a b c : Expr} {ta tb tc : TE} {pos : Pos}
theorem fin_bl {pins : List (Addr × Obj)} {σ : St} {H : Hp} {s : Shared} {Q : VK} {k k' : Bool} (I : Inv X pins σ H s) (q : Q (.bl k) H) (e : k = k') : EP X pins σ Q (.bool k') s := by
  subst e
  exact ⟨.bl k, H, I, rfl, q⟩
theorem op_eq : OpR X (compareOp .Eq) rEq := by
  intro pins s σ H x y v u Q I rx ry h
  obtain ⟨hs, q⟩ := h
  cases x with
  | non =>
    cases rx
    cases y with
    | non => cases ry; exact PySem.EqNone.eq_none_none (fin_bl I q (by simp))
    | bl j => cases ry; exact PySem.EqNone.eq_none_bool (fin_bl I q (by simp))
    | int j => obtain ⟨t', rfl⟩ := ry; exact PySem.EqNone.eq_none_int (fin_bl I q (by simp))
    | str j => obtain ⟨t', rfl⟩ := ry; exact PySem.EqNone.eq_none_str (fin_bl I q (by simp))
    | _ => exact absurd (show false = true from hs) Bool.false_ne_true
  | bl i =>
    cases rx
    cases y with
    | non => cases ry; exact PySem.EqNone.eq_bool_none (fin_bl I q (by simp))
    | bl j => cases ry; exact eq_bool (fin_bl I q dec_bl)
    | str j => obtain ⟨t', rfl⟩ := ry; exact PySem.EqMixed.eq_bool_str (fin_bl I q (by simp))
    | _ => exact absurd (show false = true from hs) Bool.false_ne_true
  | int i =>
    obtain ⟨t, rfl⟩ := rx
    cases y with
    | non => cases ry; exact PySem.EqNone.eq_int_none (fin_bl I q (by simp))
    | int j => obtain ⟨t', rfl⟩ := ry; exact eq_int (fin_bl I q dec_int)
    | str j => obtain ⟨t', rfl⟩ := ry; exact PySem.EqMixed.eq_int_str (fin_bl I q (by simp))
    | _ => exact absurd (show false = true from hs) Bool.false_ne_true
  | str i =>
    obtain ⟨t, rfl⟩ := rx
    cases y with
    | non => cases ry; exact PySem.EqNone.eq_str_none (fin_bl I q (by simp))
    | bl j => cases ry; exact PySem.EqMixed.eq_str_bool (fin_bl I q (by simp))
    | int j => obtain ⟨t', rfl⟩ := ry; exact PySem.EqMixed.eq_str_int (fin_bl I q (by simp))
    | str j => obtain ⟨t', rfl⟩ := ry; exact eq_str (fin_bl I q dec_str)
    | _ => exact absurd (show false = true from hs) Bool.false_ne_true
  | byt i =>
    obtain ⟨t, rfl⟩ := rx
    cases y with
    | byt j => obtain ⟨t', rfl⟩ := ry; exact PySem.W.eq_bytes (fin_bl I q dec_byt)
    | _ => exact absurd (show false = true from hs) Bool.false_ne_true
  | _ => cases y <;> exact absurd (show false = true from hs) Bool.false_ne_true
theorem op_ne : OpR X (compareOp .NotEq) rNe := by
  intro pins s σ H x y v u Q I rx ry h
  obtain ⟨hs, q⟩ := h
  cases x with
  | non =>
    cases rx
    cases y with
    | non => cases ry; exact PySem.EqNone.ne_none_none (fin_bl I q (by simp))
    | bl j => cases ry; exact PySem.EqNone.ne_none_bool (fin_bl I q (by simp))
    | int j => obtain ⟨t', rfl⟩ := ry; exact PySem.EqNone.ne_none_int (fin_bl I q (by simp))
    | str j => obtain ⟨t', rfl⟩ := ry; exact PySem.EqNone.ne_none_str (fin_bl I q (by simp))
    | _ => exact absurd (show false = true from hs) Bool.false_ne_true
  | bl i =>
    cases rx
    cases y with
    | non => cases ry; exact PySem.EqNone.ne_bool_none (fin_bl I q (by simp))
    | bl j => cases ry; exact ne_bool (fin_bl I q (congrArg not dec_bl))
    | str j => obtain ⟨t', rfl⟩ := ry; exact PySem.EqMixed.ne_bool_str (fin_bl I q (by simp))
    | _ => exact absurd (show false = true from hs) Bool.false_ne_true
  | int i =>
    obtain ⟨t, rfl⟩ := rx
    cases y with
    | non => cases ry; exact PySem.EqNone.ne_int_none (fin_bl I q (by simp))
    | int j => obtain ⟨t', rfl⟩ := ry; exact ne_int (fin_bl I q (congrArg not dec_int))
    | str j => obtain ⟨t', rfl⟩ := ry; exact PySem.EqMixed.ne_int_str (fin_bl I q (by simp))
    | _ => exact absurd (show false = true from hs) Bool.false_ne_true
  | str i =>
    obtain ⟨t, rfl⟩ := rx
    cases y with
    | non => cases ry; exact PySem.EqNone.ne_str_none (fin_bl I q (by simp))
    | bl j => cases ry; exact PySem.EqMixed.ne_str_bool (fin_bl I q (by simp))
    | int j => obtain ⟨t', rfl⟩ := ry; exact PySem.EqMixed.ne_str_int (fin_bl I q (by simp))
    | str j => obtain ⟨t', rfl⟩ := ry; exact ne_str (fin_bl I q (congrArg not dec_str))
    | _ => exact absurd (show false = true from hs) Bool.false_ne_true
  | byt i =>
    obtain ⟨t, rfl⟩ := rx
    cases y with
    | byt j => obtain ⟨t', rfl⟩ := ry; exact PySem.W.ne_bytes (fin_bl I q (congrArg not dec_byt))
    | _ => exact absurd (show false = true from hs) Bool.false_ne_true
  | _ => cases y <;> exact absurd (show false = true from hs) Bool.false_ne_true

theorem op_lt : OpR X (compareOp .Lt) (rI0 fun i j => .bl (decide (i < j))) := opB0 fun _ _ _ _ _ _ _ q => lt_int q
theorem op_le : OpR X (compareOp .LtE) (rI0 fun i j => .bl (decide (i ≤ j))) := opB0 fun _ _ _ _ _ _ _ q => le_int q
theorem op_gt : OpR X (compareOp .Gt) (rI0 fun i j => .bl (decide (j < i))) := opB0 fun _ _ _ _ _ _ _ q => gt_int q
theorem op_ge : OpR X (compareOp .GtE) (rI0 fun i j => .bl (decide (j ≤ i))) := opB0 fun _ _ _ _ _ _ _ q => ge_int q
theorem op_notN : OpR X (compareOp .IsNot) (fun x y H Q => y = .non ∧ Q (.bl (!decide (x = .non))) H) := by
  intro pins s σ H x y v u Q I rx ry h
  obtain ⟨rfl, q⟩ := h
  cases ry
  refine isnot_none_gen (fin_bl I q ?_)
  cases x <;> first
    | (cases rx; rfl)
    | (obtain ⟨t, rfl⟩ := rx; rfl)

theorem nomark (b : Expr) {op : CmpOp} (h : op ≠ .In := by decide) (h2 : op ≠ .NotIn := by decide) : behindInMarks op b = false := by
  have e1 : (op == CmpOp.In) = false := by cases op <;> first | rfl | exact absurd rfl h
  have e2 : (op == CmpOp.NotIn) = false := by cases op <;> first | rfl | exact absurd rfl h2
  cases b <;> simp [behindInMarks, e1, e2]
theorem pe_cmpR {op : CmpOp} {r : R2} (ho : OpR X (compareOp op) r) (ha : PE X a ta) (hb : PE X b tb) (hm : behindInMarks op b = false) : PE X (.Compare a [op] [b] pos) (tOp r ta tb) := by
  intro pins s σ H Q I h
  exact wpAny_Compare1 (binT ha hb I h fun v u s2 x y H2 I2 rx ry q => ho pins s2 σ H2 x y v u Q I2 rx ry q) hm
def tTest (t : TE) : TT := fun σ H Q => t σ H fun x H' => ∃ k, x = .bl k ∧ Q k H'
theorem pt_cmpR {op : CmpOp} {r : R2} (ho : OpR X (compareOp op) r) (ha : PE X a ta) (hb : PE X b tb) (hm : behindInMarks op b = false) : PT X (.Compare a [op] [b] pos) (tTest (tOp r ta tb)) := by
  intro pins s σ H Q I h
  refine wpAny_isTrue_Compare1 (thn (ha pins s σ H _ I h) fun v s1 ⟨x, H1, I1, r1, q1⟩ => thn (hb pins s1 σ H1 _ I1 q1) fun u s2 ⟨y, H2, I2, r2, q2⟩ =>
    thn (ho pins s2 σ H2 x y v u _ I2 r1 r2 q2) fun c s3 ⟨z, H3, I3, r3, k, e, q3⟩ => ?_) hm
  subst e
  cases r3
  exact wpAny_truthy_bool ⟨H3, I3, q3⟩
def tChain (r r' : R2) (ta tb tc : TE) : TE := fun σ H Q => ta σ H fun x H1 => tb σ H1 fun y H2 => r x y H2 fun z H3 => ∃ k, z = .bl k ∧
  (if k = true then tc σ H3 fun w' H4 => r' y w' H4 Q else Q (.bl false) H3)
theorem pe_chain {op op' : CmpOp} {r r' : R2} (ho : OpR X (compareOp op) r) (ho' : OpR X (compareOp op') r') (ha : PE X a ta) (hb : PE X b tb) (hc : PE X c tc)
    (hm : lastMarks [op, op'] [b, c] = false := by with_unfolding_all rfl) : PE X (.Compare a [op, op'] [b, c] pos) (tChain r r' ta tb tc) := by
  intro pins s σ H Q I h
  refine Compare_chain (thn (ha pins s σ H _ I h) fun v s1 ⟨x, H1, I1, r1, q1⟩ => chain_link (thn (hb pins s1 σ H1 _ I1 q1) fun u s2 ⟨y, H2, I2, r2, q2⟩ =>
    thn (ho pins s2 σ H2 x y v u _ I2 r1 r2 q2) fun d s3 ⟨z, H3, I3, r3, k, e, q3⟩ => ?_)) hm
  subst e
  cases r3
  refine wpAny_truthy_bool ?_
  cases k with
  | false => exact ite_ff ⟨.bl false, H3, I3, rfl, q3⟩
  | true => exact ite_tt (chain_last (thn (hc pins s3 σ H3 _ I3 q3) fun w' s4 ⟨z', H4, I4, r4, q4⟩ => ho' pins s4 σ H4 y z' u w' Q I4 r2 r4 q4))
theorem line63 : (sizeLine : Nat) < 2 ^ 63 := by rw [sizeLine_eq]; decide
theorem vals1 {x : V} {us : List Value} (r : Vals [x] us) : ∃ u, us = [u] ∧ RelV x u := by
  cases r with
  | cons r1 r2 => cases r2; exact ⟨_, rfl, r1⟩
theorem vals2 {x y : V} {us : List Value} (r : Vals [x, y] us) : ∃ u w', us = [u, w'] ∧ RelV x u ∧ RelV y w' := by
  cases r with
  | cons r1 r2 =>
    cases r2 with
    | cons r3 r4 => cases r4; exact ⟨_, _, rfl, r1, r3⟩
theorem call_min2 (hc : X.calm = true) : CallR X (.builtin "min") (fun xs H Q => ∃ i j, xs = [.int i, .int j] ∧ Q (.int (if j < i then j else i)) H) := by
  intro pins s σ H xs us Q I r h
  obtain ⟨i, j, rfl, q⟩ := h
  obtain ⟨u, w', rfl, ⟨t, rfl⟩, ⟨t', rfl⟩⟩ := vals2 r
  refine min_two_ints (I.ok.hd hc) fun h' tk k => ⟨_, H, I.kept k, ?_, q⟩
  by_cases hj : j < i
  · rw [if_pos hj, if_pos hj]; exact ⟨_, rfl⟩
  · rw [if_neg hj, if_neg hj]; exact ⟨_, rfl⟩
theorem call_int1 : CallR X (.type "int") (fun xs H Q => (∃ i, xs = [.int i] ∧ Q (.int i) H) ∨ ∃ k, xs = [.bl k] ∧ Q (.int (if k then 1 else 0)) H) := by
  intro pins s σ H xs us Q I r h
  rcases h with ⟨i, rfl, q⟩ | ⟨k, rfl, q⟩
  · obtain ⟨u, rfl, t, rfl⟩ := vals1 r
    exact call_int_int ⟨.int i, H, I, ⟨_, rfl⟩, q⟩
  · obtain ⟨u, rfl, r1⟩ := vals1 r
    cases r1
    exact call_int_bool ⟨.int (if k then 1 else 0), H, I.tok _, ⟨_, rfl⟩, q⟩
end
end L2

namespace L2
open PySem PySem.Spec PyProof.Rows

structure ObjM (h : Heap) (x dx C : Addr) (mA : Str → Option Value) : Prop where
  obj : h.get? x = some (PySem.W.instObj C dx)
  ns : h.Ns1 dx mA
  ne : dx ≠ x

section
variable {prog : Program} {w : World} {A : Around} {E : Value → Shared → Prop} {s : Shared} {K : PySem.W.Frag} {x dx C f : Addr} {mA : Str → Option Value} {name : Str} {v : Value}

end

section
variable {P : Program} {w : World} {H H' : Hp} {h h' : Heap} {a C dx : Addr} {fs fs' : List (Str × V)}
end

structure Cls (K : PySem.W.Frag) (C : Addr) : Prop where
  pg : PySem.W.plainGet K C Str.empty = true
  hd : PySem.W.hasDictIn K C = true
  po : PySem.W.plainOver K C = true
  sa : PySem.W.findIn K (.ref C) "__setattr__" = some (some (.builtin "object.__setattr__"))
theorem Cls.get {K : PySem.W.Frag} {C : Addr} (c : Cls K C) (f : Str) : PySem.W.plainGet K C f = true := c.pg
structure Con (K : PySem.W.Frag) (C : Addr) (f : Str) (v : V) (u : Value) : Prop where
  at_ : PySem.W.findIn K (.ref C) f = some (some u)
  rel : RelV v u
  get : PySem.W.specialIn K u "__get__" = some none
  cp : PySem.W.copiedNames.contains f = false
structure Meth (K : PySem.W.Frag) (C : Addr) (m : Str) (f : Addr) : Prop where
  at_ : PySem.W.findIn K (.ref C) m = some (some (.ref f))
  fn : PySem.W.isFn K (.ref f) = true
  kp : PySem.W.keepIn K (.ref f) = true

section
variable {X : Cx} {pins : List (Addr × Obj)} {σ : St} {H : Hp} {s : Shared} {a C dx : Addr} {fs : List (Str × V)} {f : Str} {v : V} {A : Around} {E : Value → Shared → Prop}

theorem Inv.made (I : Inv X pins σ H s) : Inv X pins σ (upd (upd H s.heap.objs.size (.own (s.heap.objs.size + 1))) (s.heap.objs.size + 1) (.ins C s.heap.objs.size []))
    { s with heap := (s.heap.push PySem.W.emptyDict).push (PySem.W.instObj C s.heap.objs.size) } := by
  have e1 : (s.heap.push PySem.W.emptyDict).get? s.heap.objs.size = some PySem.W.emptyDict := Heap.get?_push_size s.heap rfl
  have e2 : ((s.heap.push PySem.W.emptyDict).push (PySem.W.instObj C s.heap.objs.size)).get? (s.heap.objs.size + 1) = some (PySem.W.instObj C s.heap.objs.size) := by
    have := Heap.get?_push_size (s.heap.push PySem.W.emptyDict) (o := PySem.W.instObj C s.heap.objs.size) rfl
    rwa [Heap.size_push] at this
  have e3 : (s.heap.push PySem.W.emptyDict).Ns s.heap.objs.size (fun _ => none) := ⟨PySem.W.emptyDict, #[], _, e1, rfl, (fun e he => absurd he (by simp)), fun _ => rfl⟩
  have I1 := I.laid (a := s.heap.objs.size) (o := .own (s.heap.objs.size + 1)) (h' := s.heap.push PySem.W.emptyDict) (t' := s.toks) (fun b u q => Heap.get?_push_of_some _ q) (Nat.le_refl _) ⟨_, e1⟩
  refine I1.laid (a := s.heap.objs.size + 1) (o := .ins C s.heap.objs.size []) (t' := s.toks) (fun b u q => Heap.get?_push_of_some _ q) (Nat.le_of_eq (Heap.size_push _ _)) ?_
  have ne : s.heap.objs.size ≠ s.heap.objs.size + 1 := Nat.ne_of_lt (Nat.lt_succ_self _)
  refine ⟨by rw [upd_ne ne, upd_same], Nat.zero_le _, ne, e2, fun _ => none, (Heap.Ns1.of_empty e3).at fun o q => Heap.get?_push_of_some _ q, fun _ => True.intro, fun y hy => absurd rfl hy⟩

end

section
variable {X : Cx} {o e value : Expr} {f : Str} {pos pos' tpos : Pos} {ta tv : TE}
end

section
variable {X : Cx} {pins : List (Addr × Obj)} {σ : St} {H : Hp} {s : Shared} {A : Around} {E : Value → Shared → Prop} {Q : Value → Shared → Prop} {c : Value} {b : Bool}
inductive TyOf (K : PySem.W.Frag) (H : Hp) : V → Value → Prop where
  | non : TyOf K H .non (.type "NoneType")
  | bl (x : Bool) : TyOf K H (.bl x) (.type "bool")
  | int (i : Int) : TyOf K H (.int i) (.type "int")
  | str (x : Str) : TyOf K H (.str x) (.type "str")
  | flt (x : UInt64) : TyOf K H (.flt x) (.type "float")
  | lst {a : Addr} {xs : List V} (e : H a = some (.lst xs)) : TyOf K H (.ref a) (.type "list")
  | frz {a : Addr} {o : Obj} {xs : List V} (e : H a = some (.frz o (.lst xs))) : TyOf K H (.ref a) (.type "list")
  | tup {a : Addr} {xs : List V} (e : H a = some (.tup xs)) : TyOf K H (.ref a) (.type "tuple")
  | dK {a : Addr} {kvs : List (Key × V)} (e : H a = some (.dK kvs)) : TyOf K H (.ref a) (.type "dict")
  | dT {a : Addr} {kvs : List (List Key × V)} (e : H a = some (.dT kvs)) : TyOf K H (.ref a) (.type "dict")
  | ins {a C dx : Addr} {fs : List (Str × V)} (e : H a = some (.ins C dx fs)) (cl : Cls K C) (ha : PySem.W.findIn K (.ref C) "__class__" = some (some (.builtin "object.__class__")))
      (hn : PySem.W.specialIn K (.builtin "object.__class__") "__get__" = some (some (.builtin "getset_descriptor.__get__"))) (htk : PySem.W.takesIn K (.builtin "object.__class__") = some true)
      (hm : PySem.W.mroIn K C (.type "object") = some true) : TyOf K H (.ref a) (.ref C)
end
end L2

namespace L2
open PySem PySem.Spec PyProof.Rows

structure Room (k : Nat) (A : Around) : Prop where
  hd : A.handled = none
  dp : A.depth + 3 * k + 5 < recursionLimit
  un : A.units + 16 * k + 200 < cLine
  gd : A.guards = some []
theorem Room.mono {j k : Nat} {A : Around} (r : Room k A) (h : j ≤ k) : Room j A := ⟨r.hd, by have := r.dp; omega, by have := r.un; omega, r.gd⟩
theorem Room.deeper {k : Nat} {A : Around} (r : Room (k + 1) A) (env : Env) : Room k (A.deeper env) :=
  ⟨r.hd, by have := r.dp; show A.depth + 1 + 3 * k + 5 < _; omega, by have := r.un; show A.units + 3 + 16 * k + 200 < _; omega, r.gd⟩
theorem Room.in1 {k : Nat} {A : Around} (r : Room (k + 1) A) : Room k A.in1 :=
  ⟨r.hd, by have := r.dp; show A.depth + 3 * k + 5 < _; omega, by have := r.un; show A.units + 1 + 16 * k + 200 < _; omega, r.gd⟩
theorem Room.depth {k : Nat} {A : Around} (r : Room k A) : A.depth < recursionLimit := by have := r.dp; omega
theorem Room.units {k : Nat} {A : Around} (r : Room k A) : A.units + 64 < cLine := by have := r.un; omega
def tNil : TA := fun _ H Q => Q [] H
def tCons (ta : TE) (tr : TA) : TA := fun σ H Q => ta σ H fun x H1 => tr σ H1 fun xs H2 => Q (x :: xs) H2
section
variable {X : Cx} {e : Expr} {es : List Expr} {te : TE} {t : TA} {pos : Pos}
theorem pa_nil : PA X [] tNil := fun _ _ _ _ H Q I h => Calls.spliced_nil ⟨[], H, I, .nil, h⟩
theorem pa_cons (ha : PE X e te) (hr : PA X es t) (hs : starEach (e :: es) X.env = (false, eval e X.env) :: starEach es X.env := by rfl) : PA X (e :: es) (tCons te t) := by
  intro pos pins s σ H Q I h
  rw [hs]
  show wpAny _ _ (spliced ((false, eval e X.env) :: backTo pos (starEach es X.env))) _ _ s
  refine Calls.spliced_cons (thn (ha pins s σ H _ I h) fun u s1 ⟨x, H1, I1, r1, q1⟩ => ?_)
  exact thn (hr pos pins s1 σ H1 _ I1 q1) fun us s2 ⟨xs, H2, I2, r2, q2⟩ => ⟨x :: xs, H2, I2, .cons r1 r2, q2⟩

def tTup (t : TA) : TE := fun σ H Q => t σ H fun xs H1 => xs.length ≤ sizeLine ∧ ∀ p, H1 p = none → Q (.ref p) (upd H1 p (.tup xs))
def tLst (t : TA) : TE := fun σ H Q => t σ H fun xs H1 => xs.length ≤ sizeLine ∧ ∀ p, H1 p = none → Q (.ref p) (upd H1 p (.lst xs))
theorem pe_tup {x1} (h : PA X es t) : PE X (.Tuple es x1 pos) (tTup t) := by
  intro pins s σ H Q I hq
  refine wpAny_Tuple_spliced (thn (h pos pins s σ H _ I hq) fun us s1 ⟨xs, H1, I1, r, z, q⟩ => ⟨by rw [← r.length]; exact z, ?_⟩)
  have hf : H1 s1.heap.objs.size = none := I1.hok.fresh (Nat.le_refl _)
  refine ⟨.ref s1.heap.objs.size, upd H1 s1.heap.objs.size (.tup xs), I1.laid (t' := s1.toks) (fun b u e => Heap.get?_push_of_some _ e) (Nat.le_refl _) ?_, rfl, q _ hf⟩
  exact ⟨z, us, 0, r, Heap.get?_push_size _ rfl⟩
theorem pe_lst (h : PA X es t) : PE X (.List es pos) (tLst t) := by
  intro pins s σ H Q I hq
  refine wpAny_List_spliced (thn (h pos pins s σ H _ I hq) fun us s1 ⟨xs, H1, I1, r, z, q⟩ => ⟨by rw [← r.length]; exact z, ?_⟩)
  have hf : H1 s1.heap.objs.size = none := I1.hok.fresh (Nat.le_refl _)
  refine ⟨.ref s1.heap.objs.size, upd H1 s1.heap.objs.size (.lst xs), I1.laid (t' := s1.toks) (fun b u e => Heap.get?_push_of_some _ e) (Nat.le_refl _) ?_, rfl, q _ hf⟩
  exact ⟨z, us, 0, r, Heap.get?_push_size _ rfl⟩
end

abbrev Sp := List V → Hp → VK → XK → Prop
abbrev CXT := List Env → Hp → Shared → XK → Value → Shared → Prop

structure Env0 (P : Program) (w : World) (K : PySem.W.Frag) (mg : Str → Option Value) (base : Heap) (A : Around) (outer : List Env) (s : Shared) (H : Hp) : Prop where
  frames : A.frames = some outer
  mod : Mod K mg base
  bs : ∀ b o, base.get? b = some o → s.heap.get? b = some o ∧ H b = none
  bsz : base.objs.size ≤ s.heap.objs.size
  funs : s.heap.FunFrames base outer
  frf : ∀ b ∈ frs outer, H b = none
  hok : HOk P w H s.heap
  bare : AllBare s.gens
def CE (outer : List Env) (P : Program) (w : World) (H : Hp) (s : Shared) (Q : VK) (u : Value) (s' : Shared) : Prop :=
  ∃ v H', s'.os = s.os ∧ AllBare s'.gens ∧ Un (frs outer) [] H H' s.heap s'.heap ∧ HOk P w H' s'.heap ∧ RelV v u ∧ Q v H'
def CR (CX : CXT) (outer : List Env) (P : Program) (w : World) (H : Hp) (s : Shared) (Q : VK) (E : XK) (r : Result) (s' : Shared) : Prop :=
  match r with
  | .ok (.ret u) => CE outer P w H s Q u s'
  | .ok _ => False
  | .error e => CX outer H s E e s'
structure FnOk (P : Program) (w : World) (K : PySem.W.Frag) (mg : Str → Option Value) (base : Heap) (CX : CXT) (k : Nat) (f : Addr) (fd : FuncData) (ps : List Str) (sp : Sp) : Prop where
  len : ∀ vs H Q E, sp vs H Q E → vs.length = ps.length
  run : ∀ (A : Around) (outer : List Env) (s : Shared) (H : Hp) (args : Args) (us : List Value) (vs : List V) (Q : VK) (E : XK), Room k A → Env0 P w K mg base A outer s H → BindsTo s fd args (ps.zip us) → Vals vs us → sp vs H Q E →
    codeAny (model P w) A (.call (.ref f) args) (CR CX outer P w H s Q E) s
theorem FnOk.mono {P : Program} {w : World} {K : PySem.W.Frag} {mg : Str → Option Value} {base : Heap} {CX : CXT} {j k : Nat} {f : Addr} {fd : FuncData} {ps : List Str} {sp : Sp} (F : FnOk P w K mg base CX j f fd ps sp) (h : j ≤ k) :
    FnOk P w K mg base CX k f fd ps sp := ⟨F.len, fun A outer s H args us vs Q E hr => F.run A outer s H args us vs Q E (hr.mono h)⟩
theorem FnOk.imp {P : Program} {w : World} {K : PySem.W.Frag} {mg : Str → Option Value} {base : Heap} {CX : CXT} {k : Nat} {f : Addr} {fd : FuncData} {ps : List Str} {sp sp' : Sp} (F : FnOk P w K mg base CX k f fd ps sp)
    (h : ∀ vs H Q E, sp' vs H Q E → sp vs H Q E) : FnOk P w K mg base CX k f fd ps sp' :=
  ⟨fun vs H Q E q => F.len vs H Q E (h _ _ _ _ q), fun A outer s H args us vs Q E hr he hb hv hs => F.run A outer s H args us vs Q E hr he hb hv (h _ _ _ _ hs)⟩

theorem Env0.in1 {P : Program} {w : World} {K : PySem.W.Frag} {mg : Str → Option Value} {base : Heap} {A : Around} {outer : List Env} {s : Shared} {H : Hp} (e : Env0 P w K mg base A outer s H) :
    Env0 P w K mg base A.in1 outer s H := ⟨e.frames, e.mod, e.bs, e.bsz, e.funs, e.frf, e.hok, e.bare⟩

section
variable {X : Cx} {pins : List (Addr × Obj)} {σ : St} {H : Hp} {s s' : Shared}
theorem Inv.env0 (I : Inv X pins σ H s) : Env0 X.prog X.w X.K X.mg X.base X.A X.stack s H :=
  ⟨I.ok.frames, I.ok.mod, I.bs, Nat.le_trans I.ok.bsz I.sz, I.stack, I.stkFree, I.hok, I.bare⟩
theorem Inv.after {Q : VK} {u : Value} (I : Inv X pins σ H s) (h : CE X.stack X.prog X.w H s Q u s') : EP X pins σ Q u s' := by
  obtain ⟨v, H', os, bare, un, hok, r, q⟩ := h
  obtain ⟨hh, g, d, t, os'⟩ := s'
  obtain rfl : os' = s.os := os
  exact ⟨v, H', I.call (h' := hh) (g' := g) (d' := d) (t' := t) (ch := []) un hok bare (fun b z => absurd z (by simp)), r, q⟩
end

def tCall (sp : Sp) (dvs : List V) (E : XK) (t : TA) : TE := fun σ H Q => t σ H fun vs H1 => sp (vs ++ dvs) H1 Q E
def Binds (K : PySem.W.Frag) (fd : FuncData) (ps : List Str) (ds : List Value) : Prop :=
  ∀ (s : Shared) (us : List Value), K.In s.heap → (us ++ ds).length = ps.length → BindsTo s fd ⟨us, []⟩ (ps.zip (us ++ ds))
theorem Binds.all {K : PySem.W.Frag} {fd : FuncData} {ps : List Str} (h : ∀ us : List Value, us.length = ps.length → bindArgs fd ⟨us, []⟩ = pure (ps.zip us)) : Binds K fd ps [] := fun s us _ hl => by
  rw [List.append_nil] at hl ⊢
  exact .of_eq (h us hl)

def Passes (CX : CXT) (X : Cx) (E : XK) : Prop := ∀ (pins : List (Addr × Obj)) (σ : St) (H : Hp) (s : Shared) (e : Value) (s' : Shared), Inv X pins σ H s → CX X.stack H s E e s' → X.xe e s'

section
variable {X : Cx} {CX : CXT} {k : Nat} {f C : Addr} {fd : FuncData} {ps : List Str} {sp : Sp} {dvs : List V} {ds : List Value} {E : XK} {x m : Str} {p pos apos : Pos} {e o : Expr} {es : List Expr} {ta : TE} {t : TA}

theorem run_fn {pins : List (Addr × Obj)} {σ : St} {H : Hp} {s : Shared} {Q : VK} {us : List Value} {vs : List V} (F : FnOk X.prog X.w X.K X.mg X.base CX k f fd ps sp) (hr : Room k X.A) (hb : Binds X.K fd ps ds) (hd : Vals dvs ds) (hx : Passes CX X E)
    (I : Inv X pins σ H s) (r : Vals vs us) (h : sp (vs ++ dvs) H Q E) : wpAny (model X.prog X.w) X.A (call (.ref f) us) (EP X pins σ Q) X.xe s := by
  have r2 : Vals (vs ++ dvs) (us ++ ds) := r.append hd
  have hl : (us ++ ds).length = ps.length := by rw [← r2.length]; exact F.len _ _ _ _ h
  refine wpAny_call (codeAny_mono (F.run X.A X.stack s H ⟨us, []⟩ (us ++ ds) (vs ++ dvs) Q E hr I.env0 (hb s us I.kIn hl) r2 h) fun r s' hq => ?_)
  cases r with
  | error e => exact hx pins σ H s e s' I hq
  | ok fl =>
    cases fl with
    | ret u => exact I.after hq
    | next => exact False.elim hq
    | brk => exact False.elim hq
    | cont => exact False.elim hq

theorem pe_call (F : FnOk X.prog X.w X.K X.mg X.base CX k f fd ps sp) (hr : Room k X.A) (hg : Gl X x) (hm : X.mg x = some (.ref f)) (hk : PySem.W.keepIn X.K (.ref f) = true) (hb : Binds X.K fd ps ds) (hd : Vals dvs ds) (hx : Passes CX X E)
    (ha : PA X (e :: es) t) (hdb : (x == ("__debug__" : Str)) = false := by decide) (he : starEach (e :: es) X.env = (false, eval e X.env) :: starEach es X.env := by rfl) (hpl : (backTo pos (starEach es X.env)).any (·.1) = false := by rfl) :
    PE X (.Call (.Name x p) (e :: es) [] pos) (tCall sp dvs E t) := by
  intro pins s σ H Q I h
  refine wpAny_Call_Name_kw (ld_glob I hg hm ?_ hdb)
  refine PySem.W.callWith_K (h₀ := X.base) I.ok.mod.kin hk (thn (ha pos pins s σ H _ I h) fun us s1 ⟨vs, H1, I1, r, q⟩ => ⟨I1.kIn, ?_⟩) he hpl
  exact run_fn F hr hb hd hx I1 r q
structure Mk (K : PySem.W.Frag) (C f : Addr) : Prop where
  makes : PySem.W.makesIn K C = true
  init : PySem.W.findIn K (.ref C) "__init__" = some (some (.ref f))
  fn : PySem.W.isFn K (.ref f) = true
  kp : PySem.W.keepIn K (.ref C) = true

end

section
variable {X : Cx} {CX : CXT} {k : Nat} {f C : Addr} {fd : FuncData} {ps ks : List Str} {sp : Sp} {E : XK} {x m : Str} {p pos apos kpos : Pos} {e o : Expr} {es : List Expr} {kws : List Keyword} {te ta : TE} {t tk : TA} {nm : Option Str}
structure KBinds (K : PySem.W.Frag) (fd : FuncData) (ps ks : List Str) (g : List Value → List Value → List Value) (gV : List V → List V → List V) : Prop where
  to : ∀ (s : Shared) (us ws : List Value), K.In s.heap → (g us ws).length = ps.length → BindsTo s fd ⟨us, ks.zip ws⟩ (ps.zip (g us ws))
  rel : ∀ {vs : List V} {us : List Value} {zs : List V} {ws : List Value}, Vals vs us → Vals zs ws → Vals (gV vs zs) (g us ws)
variable {g : List Value → List Value → List Value} {gV : List V → List V → List V}
end

structure FnScope (N P : List Str) (sc : Scope) : Prop where
  kind : sc.kind = .function
  co : sc.isCoroutine = false
  gen : sc.isGenerator = false
  nd : N.Nodup
  pre : N.take P.length = P
  par : ∀ x ∈ P, sc.names.lookup x = some .local ∨ sc.names.lookup x = some .cell
  nofree : ∀ y ∈ sc.names, y.2 ≠ .free

theorem bindL_out {kindOf : Str → Option NameKind} {x : Str} : ∀ {binds : List (Str × Value)} {m : Str → Option Value}, (∀ v, (x, v) ∉ binds) → bindL kindOf binds m x = m x
  | [], _, _ => rfl
  | (n, v) :: r, m, h => by
    unfold bindL
    rw [bindL_out fun w hw => h w (List.mem_cons_of_mem _ hw)]
    split
    · have : x ≠ n := by rintro rfl; exact h v List.mem_cons_self
      simp [this]
    · rfl
theorem bindC_out {kindOf : Str → Option NameKind} {x : Str} : ∀ {binds : List (Str × Value)} {m : Str → Option Value}, (∀ v, (x, v) ∉ binds) → bindC kindOf binds m x = m x
  | [], _, _ => rfl
  | (n, v) :: r, m, h => by
    unfold bindC
    rw [bindC_out fun w hw => h w (List.mem_cons_of_mem _ hw)]
    split
    · rfl
    · have : x ≠ n := by rintro rfl; exact h v List.mem_cons_self
      simp [this]
theorem bindL_get {kindOf : Str → Option NameKind} {x : Str} {v : Value} : ∀ {P : List Str} {vs : List Value} {i : Nat} {m : Str → Option Value}, P.Nodup → P[i]? = some x → vs[i]? = some v → kindOf x = some .local →
    bindL kindOf (P.zip vs) m x = some v
  | [], _, _, _, _, h, _, _ => by simp at h
  | _ :: _, [], _, _, _, _, h, _ => by simp at h
  | p :: P, w :: vs, 0, m, nd, h1, h2, hk => by
    simp at h1 h2; subst h1; subst h2
    show bindL kindOf ((p, w) :: P.zip vs) m p = _
    unfold bindL
    rw [bindL_out fun v hv => (List.nodup_cons.mp nd).1 (List.of_mem_zip hv).1, if_pos hk]
    simp
  | p :: P, w :: vs, i + 1, m, nd, h1, h2, hk => by
    show bindL kindOf ((p, w) :: P.zip vs) m x = _
    unfold bindL
    exact bindL_get (i := i) (List.nodup_cons.mp nd).2 (by simpa using h1) (by simpa using h2) hk
theorem bindC_get {kindOf : Str → Option NameKind} {x : Str} {v : Value} : ∀ {P : List Str} {vs : List Value} {i : Nat} {m : Str → Option Value}, P.Nodup → P[i]? = some x → vs[i]? = some v → kindOf x ≠ some .local →
    bindC kindOf (P.zip vs) m x = some v
  | [], _, _, _, _, h, _, _ => by simp at h
  | _ :: _, [], _, _, _, _, h, _ => by simp at h
  | p :: P, w :: vs, 0, m, nd, h1, h2, hk => by
    simp at h1 h2; subst h1; subst h2
    show bindC kindOf ((p, w) :: P.zip vs) m p = _
    unfold bindC
    rw [bindC_out fun v hv => (List.nodup_cons.mp nd).1 (List.of_mem_zip hv).1, if_neg hk]
    simp
  | p :: P, w :: vs, i + 1, m, nd, h1, h2, hk => by
    show bindC kindOf ((p, w) :: P.zip vs) m x = _
    unfold bindC
    exact bindC_get (i := i) (List.nodup_cons.mp nd).2 (by simpa using h1) (by simpa using h2) hk

def start (N : List Str) (vs : List V) : St := vs.map some ++ List.replicate (N.length - vs.length) none

def cxOf (CX : CXT) (P : Program) (w : World) (K : PySem.W.Frag) (mg : Str → Option Value) (base : Heap) (N : List Str) (qual : Str) (scope : Scope) (f : Addr) (cd : Value) (A : Around) (outer : List Env) (s : Shared) (H : Hp) (E : XK) : Cx where
  prog := P
  w := w
  K := K
  mg := mg
  base := base
  A := A.deeper (envOfC qual scope s.heap.objs.size f cd)
  N := N
  s₀ := s
  H₀ := H
  env := envOfC qual scope s.heap.objs.size f cd
  outer := outer
  stack := envOfC qual scope s.heap.objs.size f cd :: outer
  ex := []
  calm := true
  fn := fun _ => true
  pn := []
  xe := fun e s' => wpAny (model P w) (A.deeper (envOfC qual scope s.heap.objs.size f cd)) (leaving (envOfC qual scope s.heap.objs.size f cd) e) (fun _ s'' => CX outer H s E e s'') (fun e' s'' => CX outer H s E e' s'') s'

theorem cell_has {sc : Scope} {n : Nat} {x : Str} (h : sc.names.lookup x = some .cell) : ∃ c, (cellsFrom n sc.names []).lookup x = some c := by
  have q := PySem.W.cellsFrom_some sc.names n [] (.inl h)
  exact Option.isSome_iff_exists.mp q

theorem inv_start {CX : CXT} {P : Program} {w : World} {K : PySem.W.Frag} {mg : Str → Option Value} {base : Heap} {N ps : List Str} {qual : Str} {scope : Scope} {f : Addr} {cd : Value} {A : Around} {outer : List Env} {s s1 : Shared} {H : Hp} {E : XK} {us : List Value} {vs : List V}
    (S : FnScope N ps scope) (hd : A.handled = none) (e0 : Env0 P w K mg base A outer s H) (hl : vs.length = ps.length) (r : Vals vs us)
    (x : InCallC s s.heap.objs.size (bindL (envOfC qual scope s.heap.objs.size f cd).kindOf (ps.zip us) fun _ => none) (cellsFrom (s.heap.objs.size + 1) scope.names []) (bindC (envOfC qual scope s.heap.objs.size f cd).kindOf (ps.zip us) fun _ => none) s1) :
    Inv (cxOf CX P w K mg base N qual scope f cd A outer s H E) [] (start N vs) H s1 := by
  have hpl : ps.length ≤ N.length := by have := congrArg List.length S.pre; rw [List.length_take] at this; omega
  obtain ⟨h1, tk, rfl, hk⟩ := x.done
  have noA : ∀ b : Addr, b ∉ (cxOf CX P w K mg base N qual scope f cd A outer s H E).ex := fun b z => absurd (show b ∈ ([] : List Addr) from z) (by simp)
  refine ⟨⟨e0.mod, S.kind, rfl, rfl, Nat.le_refl _, fun y z c h1 h2 => ?_, fun y hy => ?_, fun y c _ h => ?_, fun _ => hd, Around.frames_deeper e0.frames, .inr ⟨rfl, rfl⟩, fun b z => absurd z (noA b), e0.bs, e0.bsz, fun b _ _ => noA b, fun b z => absurd z (noA b), e0.funs, e0.frf⟩,
    rfl, e0.bare, Un.kept hk, ⟨_, x.toInCall.ns, fun i y v h1 h2 h3 => ?_⟩, fun y c h => ⟨_, x.cell y c h⟩, e0.hok.fresh (Nat.le_refl _), fun y c h => ?_, fun p hp => absurd (show p ∈ ([] : List (Addr × Obj)) from hp) (by simp), e0.hok.kept hk, ?_⟩
  · exact name_of_addr x.apart (PySem.mem_of_lookup h1) (PySem.mem_of_lookup h2)
  · have hy : scope.names.lookup y = some .cell ∨ scope.names.lookup y = some .free := hy
    rcases hy with hy | hy
    · exact cell_has hy
    · exact absurd rfl (S.nofree _ (PySem.mem_of_lookup hy))
  · exact Nat.le_of_lt (x.above y c (PySem.mem_of_lookup h))
  · have hi : i < vs.length := by
      unfold start at h2
      by_cases hi : i < vs.length
      · exact hi
      · rw [List.getElem?_append_right (by simpa using hi)] at h2
        rw [List.getElem?_replicate] at h2
        split at h2 <;> cases h2
    have ha : vs[i]? = some v := by
      unfold start at h2
      rw [List.getElem?_append_left (by simpa using hi), List.getElem?_map] at h2
      cases e : vs[i]? with
      | none => rw [e] at h2; cases h2
      | some a => rw [e] at h2; cases h2; rfl
    obtain ⟨u, hu, rv⟩ := r.get ha
    have hp : ps[i]? = some y := by
      rw [← S.pre, List.getElem?_take_of_lt (by omega)]; exact h1
    have ndP : ps.Nodup := by rw [← S.pre]; exact S.nd.sublist (List.take_sublist _ _)
    refine ⟨u, rv, ?_⟩
    rcases S.par y (List.mem_of_getElem? hp) with k | k
    · exact .inl ⟨k, bindL_get ndP hp hu k⟩
    · obtain ⟨c, e⟩ := cell_has (n := s.heap.objs.size + 1) k
      refine .inr ⟨.inl k, c, e, ?_⟩
      have q := x.cell y c e
      rw [bindC_get ndP hp hu (by show scope.names.lookup y ≠ _; rw [k]; decide)] at q
      exact q
  · exact e0.hok.fresh (Nat.le_of_lt (x.above y c (PySem.mem_of_lookup h)))
  · unfold start
    show _ = N.length
    rw [List.length_append, List.length_map, List.length_replicate]
    omega

theorem fn_of {CX : CXT} {P : Program} {w : World} {K : PySem.W.Frag} {mg : Str → Option Value} {base : Heap} {k : Nat} {f : Addr} {name qual : Str} {params : Arguments} {body : List Stmt} {scope : Scope} {dV kV doc pm cdv ct oc : Value} {an od : Option Addr}
    {osl : Array (Option Value)} {N ps : List Str} {sp : Sp} (lk : K.lookup f = some ⟨oc, od, .func (PySem.W.fnOf name qual params body scope dV kV doc pm an cdv ct), osl⟩) (hcd : PySem.W.codeIn K cdv qual = true) (S : FnScope N ps scope)
    (len : ∀ vs H Q E, sp vs H Q E → vs.length = ps.length)
    (hbody : ∀ (A : Around) (outer : List Env) (s : Shared) (H : Hp) (vs : List V) (Q : VK) (E : XK), Room k (A.deeper (envOfC qual scope s.heap.objs.size f cdv)) → sp vs H Q E →
      ∃ t, PSs (cxOf CX P w K mg base N qual scope f cdv A outer s H E) body t ∧ t { nx := fun _ H' => Q .non H', rt := Q } (start N vs) H) :
    FnOk P w K mg base CX (k + 1) f (PySem.W.fnOf name qual params body scope dV kV doc pm an cdv ct) ps sp := by
  refine ⟨len, fun A outer s H args us vs Q E hr e0 hb r hsp => ?_⟩
  have hl := len _ _ _ _ hsp
  have KX : K.In s.heap := e0.mod.kin.keeps fun b o e => (e0.bs b o e).1
  have lim : s.heap.NoLimit := e0.mod.nolimit.keeps fun b o e => (e0.bs b o e).1
  have hkind : ∀ y ∈ ps.zip us, scope.names.lookup y.1 = some .local ∨ (scope.names.lookup y.1 = some .cell ∧ ((cellsFrom (s.heap.objs.size + 1) scope.names []).lookup y.1).isSome = true) := fun ⟨n, v⟩ hy => by
    rcases S.par n (List.of_mem_zip hy).1 with q | q
    · exact .inl q
    · exact .inr ⟨q, PySem.W.cellsFrom_some _ _ _ (.inl q)⟩
  refine codeAny_call_function hr.depth (KX _ _ lk) rfl S.co S.gen rfl (PySem.W.codeRec_of KX hcd) (hb _ _ _ _ ?_)
  refine wpAny_newFunctionEnv_cells S.kind hkind fun env he s1 x => ?_
  subst he
  refine ⟨lim.keeps x.toInCall.keep, codeAny_func ?_⟩
  obtain ⟨t, ht, hq⟩ := hbody A outer s H vs Q E (hr.deeper _) hsp
  have I : Inv (cxOf CX P w K mg base N qual scope f cdv A outer s H E) [] (start N vs) H s1 := inv_start S hr.hd e0 hl r x
  refine wpAny_mono (ht [] s1 (start N vs) H _ I hq) (fun fl s' hs => ?_) fun e s' hs => hs
  have fin : ∀ {σ' : St} {H' : Hp} {v : V} {u : Value}, Inv (cxOf CX P w K mg base N qual scope f cdv A outer s H E) [] σ' H' s' → RelV v u → Q v H' → CE outer P w H s Q u s' :=
    fun {σ' H' v u} J rv q => ⟨v, H', J.os, J.bare, J.base, J.hok, rv, q⟩
  cases fl with
  | ret u =>
    obtain ⟨v, σ', H', J, rv, q⟩ := hs
    exact fin J rv q
  | next =>
    obtain ⟨σ', H', J, q⟩ := hs
    exact fin (v := V.non) (u := Value.none) J rfl q
  | brk =>
    obtain ⟨_, _, _, q⟩ := hs
    exact False.elim q
  | cont =>
    obtain ⟨_, _, _, q⟩ := hs
    exact False.elim q
end L2

namespace L2
open PySem PySem.Spec PyProof.Rows
section
variable {X : Cx} {x : Str} {p pos : Pos} {e : Expr} {es : List Expr} {t : TA} {id T : String} {r : List V → Hp → VK → Prop}

def tCB (r : List V → Hp → VK → Prop) (t : TA) : TE := fun σ H Q => t σ H fun vs H1 => r vs H1 Q
theorem pe_callB (hc : CallR X (.builtin id) r) (hg : Gl X x) (hm : X.mg x = none) (hv : bootBuiltins x = some (.builtin id)) (ha : PA X (e :: es) t) (hn : x ≠ "__name__" := by decide) (hdb : (x == ("__debug__" : Str)) = false := by decide)
    (he : starEach (e :: es) X.env = (false, eval e X.env) :: starEach es X.env := by rfl) (hpl : (backTo pos (starEach es X.env)).any (·.1) = false := by rfl) : PE X (.Call (.Name x p) (e :: es) [] pos) (tCB r t) := by
  intro pins s σ H Q I h
  refine wpAny_Call_Name_kw (ld_blt I hg hm hv ?_ hn hdb)
  exact PyProof.Rows.callWith_builtin1 (thn (ha pos pins s σ H _ I h) fun us s1 ⟨vs, H1, I1, r1, q1⟩ => hc pins s1 σ H1 vs us Q I1 r1 q1) he hpl
theorem pe_callTy (hc : CallR X (.type T) r) (hg : Gl X x) (hm : X.mg x = none) (hv : bootBuiltins x = some (.type T)) (ha : PA X (e :: es) t) (hn : x ≠ "__name__" := by decide) (hdb : (x == ("__debug__" : Str)) = false := by decide)
    (he : starEach (e :: es) X.env = (false, eval e X.env) :: starEach es X.env := by rfl) (hpl : (backTo pos (starEach es X.env)).any (·.1) = false := by rfl) : PE X (.Call (.Name x p) (e :: es) [] pos) (tCB r t) := by
  intro pins s σ H Q I h
  refine wpAny_Call_Name_kw (ld_blt I hg hm hv ?_ hn hdb)
  exact PyProof.Rows.callWith_type1 (thn (ha pos pins s σ H _ I h) fun us s1 ⟨vs, H1, I1, r1, q1⟩ => hc pins s1 σ H1 vs us Q I1 r1 q1) he hpl
end
end L2

namespace HT
open PySem PyProof.Rows

section
open PySem.SeqAt
open PySem.AutoSeq1 (wpAny_loadPart')
open PySem.MeetsSeq PySem.MeetsSeq2 PySem.MeetsSeq3

end

section
variable {prog : Program} {w : World} {A : Around} {E : Value → Shared → Prop} {s : Shared}

theorem cat_tup {t b : Addr} {vs ws : List Value} {Q : Value → Shared → Prop} (ht : IsTup s.heap t vs.toArray) (hb : IsTup s.heap b ws.toArray) (hv : vs ≠ [])
    (h1 : ws = [] → Q (.ref t) s) (h2 : ws ≠ [] → Q (.ref s.heap.objs.size) { s with heap := s.heap.push { cls := .type "tuple", data := .seq (vs ++ ws).toArray } })
    (hsz : vs.length + ws.length ≤ sizeLine) : wpAny (model prog w) A (binaryOp .Add (.ref t) (.ref b)) Q E s := by
  obtain ⟨⟨cls, dd, data, sl⟩, ho, hc, n, hd⟩ := id ht
  obtain ⟨⟨cls2, dd2, data2, sl2⟩, ho2, hc2, n2, hd2⟩ := id hb
  simp only at hc hd hc2 hd2
  subst hc hd hc2 hd2
  have e : vs.toArray ++ ws.toArray = (vs ++ ws).toArray := by simp
  by_cases hw : ws = []
  · exact concat_meets ⟨_, ho, rfl⟩ ⟨_, ho2, rfl⟩ noFill_tuple_add seq_tuple_add PySem.F.slot_tuple_add PySem.F.entry_tuple_add (PySem.F.args_tuple_add_2 _ _)
      (tuple_addW1 t b vs.toArray ws.toArray n n2 dd dd2 sl sl2 (by simpa using hv) (by simp [hw])) ⟨ho, ho2, h1 hw⟩
  · refine concat_meets ⟨_, ho, rfl⟩ ⟨_, ho2, rfl⟩ noFill_tuple_add seq_tuple_add PySem.F.slot_tuple_add PySem.F.entry_tuple_add (PySem.F.args_tuple_add_2 _ _)
      (tuple_addW2 t b vs.toArray ws.toArray n n2 dd dd2 sl sl2 (by simpa using hv) (by simpa using hw) (by rw [List.size_toArray, List.size_toArray]; exact hsz)) ⟨ho, ho2, ?_⟩
    rw [e]
    exact h2 hw

def sIx (n d : Nat) : Option Int → Nat
  | none => d
  | some v => if v < 0 then (v + (n : Int)).toNat else min v.toNat n
theorem sIx_none (n d : Nat) : sIx n d none = d := rfl
theorem sIx_nat (n d k : Nat) : sIx n d (some (k : Int)) = min k n := by
  show (if (k : Int) < 0 then ((k : Int) + (n : Int)).toNat else min (k : Int).toNat n) = min k n
  rw [if_neg (by omega), Int.toNat_natCast]
theorem sIx_le (n d : Nat) (hd : d ≤ n) (o : Option Int) : sIx n d o ≤ n := by
  cases o with
  | none => exact hd
  | some v =>
    show (if v < 0 then (v + (n : Int)).toNat else min v.toNat n) ≤ n
    by_cases hv : v < 0
    · rw [if_pos hv]; omega
    · rw [if_neg hv]; exact Nat.min_le_right _ _
theorem clip_eq (v : Int) (n d : Nat) : (if v < 0 then max (v + (n : Int)) 0 else min v (n : Int)) = ((sIx n d (some v) : Nat) : Int) := by
  show (if v < 0 then max (v + (n : Int)) 0 else min v (n : Int)) = (((if v < 0 then (v + (n : Int)).toNat else min v.toNat n) : Nat) : Int)
  by_cases hv : v < 0
  · simp only [if_pos hv]; omega
  · simp only [if_neg hv]; omega
theorem adjust_gen (lo hi : Option Int) (n : Nat) : Builtin.Slice.sliceAdjust lo hi 1 (n : Int) = (((sIx n 0 lo : Nat) : Int), ((sIx n n hi : Nat) : Int)) := by
  have h1 : ¬ ((1 : Int) < 0) := by omega
  unfold Builtin.Slice.sliceAdjust
  simp only [h1, if_false]
  refine Prod.ext ?_ ?_
  · cases lo with
    | none => rfl
    | some v => exact clip_eq v n 0
  · cases hi with
    | none => rfl
    | some v => exact clip_eq v n n
theorem places_gen (i j : Nat) : Builtin.Slice.slicePlaces (i : Int) (j : Int) 1 = j - i := by
  unfold Builtin.Slice.slicePlaces
  have h1 : (1 : Int) > 0 := by omega
  simp only [h1, if_true, Int.ediv_one]
  split <;> omega
theorem slicePart_ {v : Value} {o : Option Int} {Q : Option Int → Shared → Prop} (p : IsPart v o) (h : Q o s) : wpAny (model prog w) A (Builtin.Slice.slicePartIndex v) Q E s := by
  cases p with
  | none => exact slicePart_none h
  | int i t => exact slicePart_int h
theorem sliceApplied_gen {sl : Addr} {vl vu : Value} {lo hi : Option Int} {n : Nat} {Q : Int × Int × Nat → Shared → Prop} (hs : s.heap.IsSliceOf sl vl vu .none) (pl : IsPart vl lo) (pu : IsPart vu hi)
    (h : Q (((sIx n 0 lo : Nat) : Int), 1, sIx n n hi - sIx n 0 lo) s) : wpAny (model prog w) A (Builtin.Slice.sliceApplied (.ref sl) (pure (n : Int))) Q E s := by
  obtain ⟨os, hos, hcs, hds⟩ := id hs
  unfold Builtin.Slice.sliceApplied Builtin.Slice.sliceFields
  refine wpAny_bind (wpAny_bind (wpAny_field hos hds (x := vl) rfl (wpAny_bind (wpAny_field hos hds (x := vu) rfl (wpAny_bind (wpAny_field hos hds (x := .none) rfl (wpAny_pure ?_)))))))
  refine wpAny_bind (slicePart_none ?_)
  show wpAny _ _ (if ((1 : Int) == 0) = true then _ else _) _ _ s
  rw [if_neg (by decide)]
  refine wpAny_bind (slicePart_ pl (wpAny_bind (slicePart_ pu (wpAny_bind (wpAny_pure ?_)))))
  show wpAny _ _ (match Builtin.Slice.sliceAdjust lo hi 1 (n : Int) with | (lo, hi) => pure (lo, (1 : Int), Builtin.Slice.slicePlaces lo hi 1)) _ _ s
  rw [adjust_gen lo hi n]
  show wpAny _ _ (pure (((sIx n 0 lo : Nat) : Int), (1 : Int), Builtin.Slice.slicePlaces ((sIx n 0 lo : Nat) : Int) ((sIx n n hi : Nat) : Int) 1)) _ _ s
  rw [places_gen]
  exact wpAny_pure h
theorem pick_gen (xs : Array Value) (i k : Nat) : ((List.range k).filterMap fun (m : Nat) => xs[((i : Int) + (m : Int) * 1).toNat]?).toArray = ((xs.toList.drop i).take k).toArray := by
  have e : (fun (m : Nat) => xs[((i : Int) + (m : Int) * 1).toNat]?) = fun m => xs[i + m]? := by
    funext m
    have : ((i : Int) + (m : Int) * 1).toNat = i + m := by omega
    rw [this]
  rw [e]
  have := pick_run xs i k
  rw [List.filterMap_map] at this
  have e2 : ((fun x => xs[x]?) ∘ fun x => i + x) = fun m => xs[i + m]? := rfl
  rw [e2] at this
  rw [this]

theorem getItem_tuple_cut {t sl : Addr} {items : Array Value} {vl vu : Value} {lo hi : Option Int} {Q : Value → Shared → Prop} (ht : IsTup s.heap t items) (hs : s.heap.IsSliceOf sl vl vu .none) (pl : IsPart vl lo) (pu : IsPart vu hi)
    (hw : ¬ (sIx items.size 0 lo = 0 ∧ sIx items.size items.size hi = items.size))
    (h : Q (.ref s.heap.objs.size) { s with heap := s.heap.push { cls := .type "tuple", data := .seq ((items.toList.drop (sIx items.size 0 lo)).take (sIx items.size items.size hi - sIx items.size 0 lo)).toArray } })
    (hsz : items.size ≤ sizeLine) : wpAny (model prog w) A (getItem (.ref t) (.ref sl)) Q E s := by
  have htake : sizeOk (.seq ((items.toList.drop (sIx items.size 0 lo)).take (sIx items.size items.size hi - sIx items.size 0 lo)).toArray) := by
    show ((items.toList.drop (sIx items.size 0 lo)).take (sIx items.size items.size hi - sIx items.size 0 lo)).toArray.size ≤ sizeLine
    rw [List.size_toArray, List.length_take, List.length_drop, Array.length_toList]
    omega
  have hj : sIx items.size items.size hi ≤ items.size := sIx_le _ _ (Nat.le_refl _) hi
  obtain ⟨os, hos, hcs, hds⟩ := id hs
  have hTs : s.TypeIs (.ref sl) "slice" := ⟨os, hos, hcs⟩
  unfold getItem
  try with_reducible refine wpAny_holding ?_
  first | refine wpAny_bind (wpAny_pure ?_) | skip
  refine wpAny_bind (wpAny_sequenceKey ht.typeIs (by decide) ?_)
  refine wpAny_bind (wpAny_callSpecial?_slot (name := Str.ofString "__getitem__") ht.typeIs PyProof.Rows.slot_tuple_getitem
    (wpAny_call_entry PyProof.Rows.slot_tuple_getitem ht.typeIs entry_tuple_getitem ?_ (args_tuple_getitem _ _)))
  show wpAny _ _ (Builtin.Tuple.tupleItemsOf (.ref t) >>= _) _ _ s
  refine wpAny_bind (tupleItemsOf_ ht ?_)
  refine wpAny_bind (wpAny_typeOf hTs ?_)
  rw [if_pos (by decide)]
  refine wpAny_bind (sliceApplied_gen hs pl pu ?_)
  have hno : ¬ ((((sIx items.size 0 lo : Nat) : Int) == 0 && (1 : Int) == 1 && (sIx items.size items.size hi - sIx items.size 0 lo) == items.size) = true) := by
    intro q
    rw [Bool.and_eq_true, Bool.and_eq_true] at q
    have q1 : ((sIx items.size 0 lo : Nat) : Int) = 0 := eq_of_beq q.1.1
    have q2 : sIx items.size items.size hi - sIx items.size 0 lo = items.size := eq_of_beq q.2
    exact hw ⟨by omega, by omega⟩
  show wpAny _ _ (if (((sIx items.size 0 lo : Nat) : Int) == 0 && (1 : Int) == 1 && (sIx items.size items.size hi - sIx items.size 0 lo) == items.size) = true then _ else _) _ _ s
  rw [if_neg hno, pick_gen]
  first
    | exact wpAny_bind (m := Builtin.Tuple.tupleExact _) (wpAny_newObj_type (wpAny_pure ⟨_, rfl, wpAny_pure h⟩) htake)
    | exact wpAny_bind (m := Builtin.Tuple.tupleExact _) (wpAny_newObj_type (wpAny_bind (wpAny_pure (wpAny_pure ⟨_, rfl, wpAny_pure h⟩))) htake)
    | exact wpAny_bind (wpAny_bind (m := Builtin.Tuple.tupleExact _) (wpAny_newObj_type (wpAny_pure (wpAny_pure ⟨_, rfl, wpAny_pure h⟩)) htake))
    | exact wpAny_bind (wpAny_bind (m := Builtin.Tuple.tupleExact _) (wpAny_newObj_type (wpAny_pure ⟨_, rfl, wpAny_pure h⟩) htake))
end
end HT

namespace L2
open PySem PySem.Spec PyProof.Rows

abbrev TO := St → Hp → (Option Int → Hp → Prop) → Prop
def PO (X : Cx) (e : Option Expr) (t : TO) : Prop :=
  ∀ (pins : List (Addr × Obj)) (s : Shared) (σ : St) (H : Hp) (Q : Option Int → Hp → Prop), Inv X pins σ H s → t σ H Q →
    wpAny (model X.prog X.w) X.A (evalPart e X.env) (fun u s' => ∃ o H', Inv X pins σ H' s' ∧ IsPart u o ∧ Q o H') X.xe s
def tNoPart : TO := fun _ H Q => Q none H
def tPart (t : TE) : TO := fun σ H Q => t σ H fun x H1 => ∃ i, x = .int i ∧ Q (some i) H1

section
variable {X : Cx} {e : Expr} {te : TE} {lo hi : Option Expr} {tl th : TO} {pos p2 : Pos}

theorem po_none : PO X none tNoPart := by
  intro pins s σ H Q I h
  rw [evalPart_none]
  exact wpAny_pure ⟨none, H, I, .none, h⟩
theorem po_some (h : PE X e te) : PO X (some e) (tPart te) := by
  intro pins s σ H Q I hw
  rw [evalPart_some]
  refine thn (h pins s σ H _ I hw) fun u s1 ⟨x, H1, I1, r1, q1⟩ => ?_
  obtain ⟨i, rfl, q⟩ := q1
  obtain ⟨t, rfl⟩ := r1
  exact ⟨some i, H1, I1, .int i t, q⟩

def SlR (X : Cx) (r : V → Option Int → Option Int → Hp → VK → Prop) : Prop :=
  ∀ (pins : List (Addr × Obj)) (s : Shared) (σ : St) (H : Hp) (x : V) (v vl vu : Value) (lo hi : Option Int) (sl : Addr) (Q : VK), Inv X pins σ H s → RelV x v → s.heap.IsSliceOf sl vl vu .none → IsPart vl lo → IsPart vu hi → r x lo hi H Q →
    ∃ T id, typeLookup (.type T) "__getitem__" = pure (some (.builtin id)) ∧ s.TypeIs v T ∧ wpAny (model X.prog X.w) X.A (getItem v (.ref sl)) (EP X pins σ Q) X.xe s
def tSl (r : V → Option Int → Option Int → Hp → VK → Prop) (te : TE) (tl th : TO) : TE := fun σ H Q => te σ H fun x H1 => tl σ H1 fun l H2 => th σ H2 fun u H3 => r x l u H3 Q
theorem pe_slice {r : V → Option Int → Option Int → Hp → VK → Prop} (hr : SlR X r) (he : PE X e te) (hl : PO X lo tl) (hu : PO X hi th) : PE X (.Subscript e (.Slice lo hi none p2) pos) (tSl r te tl th) := by
  intro pins s σ H Q I h
  refine Subscript_ (thn (he pins s σ H _ I h) fun v s1 ⟨x, H1, I1, r1, q1⟩ => ?_)
  refine wpAny_Slice (thn (hl pins s1 σ H1 _ I1 q1) fun vl s2 ⟨l, H2, I2, pl, q2⟩ => thn (hu pins s2 σ H2 _ I2 q2) fun vu s3 ⟨u, H3, I3, pu, q3⟩ => ?_)
  rw [evalPart_none]
  refine wpAny_pure ?_
  have I4 : Inv X pins σ H3 { s3 with heap := s3.heap.push { cls := .type "slice", data := .fields #[vl, vu, .none] } } := I3.kept (t' := s3.toks) fun b ob q => Heap.get?_push_of_some _ q
  obtain ⟨T, id, hT, ht, hg⟩ := hr pins { s3 with heap := s3.heap.push { cls := .type "slice", data := .fields #[vl, vu, .none] } } σ H3 x v vl vu l u s3.heap.objs.size Q I4 r1 (Heap.IsSliceOf.new ..) pl pu q3
  show wpAny (model X.prog X.w) X.A (subscriptTail e (.Slice lo hi none p2) v (.ref s3.heap.objs.size)) (EP X pins σ Q) X.xe { s3 with heap := s3.heap.push { cls := .type "slice", data := .fields #[vl, vu, .none] } }
  exact tail_any (ops := [.ref s3.heap.objs.size, v]) ht hT hg (by with_unfolding_all rfl)

def cutV (xs : List V) (lo hi : Option Int) : List V := (xs.drop (HT.sIx xs.length 0 lo)).take (HT.sIx xs.length xs.length hi - HT.sIx xs.length 0 lo)
theorem cutV_length (xs : List V) (lo hi : Option Int) : (cutV xs lo hi).length ≤ xs.length := by
  unfold cutV
  rw [List.length_take, List.length_drop]
  omega
def rSlT (K : PySem.W.Frag) : V → Option Int → Option Int → Hp → VK → Prop := fun x lo hi H Q => ∃ a xs, x = .ref a ∧ SqT K H a xs ∧
  ¬ (HT.sIx xs.length 0 lo = 0 ∧ HT.sIx xs.length xs.length hi = xs.length) ∧ ∀ p, H p = none → Q (.ref p) (upd H p (.tup (cutV xs lo hi)))
theorem sl_tup : SlR X (rSlT X.K) := by
  intro pins s σ H x v vl vu lo hi sl Q I rx hs pl pu h
  obtain ⟨a, xs, rfl, hx, hw, q⟩ := h
  cases rx
  obtain ⟨its, r, ht, hz⟩ := I.tuple hx
  have hlen : its.toArray.size = xs.length := by rw [List.size_toArray]; exact r.length.symm
  refine ⟨"tuple", _, PyProof.Rows.slot_tuple_getitem.lookup, ht.typeIs, ?_⟩
  refine HT.getItem_tuple_cut ht hs pl pu (by rw [hlen]; exact hw) ?_ (by rw [hlen]; exact hz)
  rw [hlen]
  refine ⟨.ref s.heap.objs.size, _, I.laid (t' := s.toks) (o := .tup (cutV xs lo hi)) (fun b ob q => Heap.get?_push_of_some _ q) (Nat.le_refl _) ?_, rfl, q _ (I.hok.fresh (Nat.le_refl _))⟩
  exact ⟨Nat.le_trans (cutV_length xs lo hi) hz, _, 0, (r.drop (HT.sIx xs.length 0 lo)).take (HT.sIx xs.length xs.length hi - HT.sIx xs.length 0 lo), Heap.get?_push_size _ rfl⟩

def rCatT (K : PySem.W.Frag) : R2 := fun x y H Q => ∃ a b xs ys, x = .ref a ∧ y = .ref b ∧ SqT K H a xs ∧ SqT K H b ys ∧ xs ≠ [] ∧ xs.length + ys.length ≤ sizeLine ∧
  (ys = [] → Q (.ref a) H) ∧ (ys ≠ [] → ∀ p, H p = none → Q (.ref p) (upd H p (.tup (xs ++ ys))))
theorem Vals.nil_iff {xs : List V} {us : List Value} (r : Vals xs us) : us = [] ↔ xs = [] := by
  cases r with
  | nil => simp
  | cons _ _ => simp
theorem op_catT : OpR X (binaryOp .Add) (rCatT X.K) := by
  intro pins s σ H x y v u Q I rx ry h
  obtain ⟨a, b, xs, ys, rfl, rfl, ha, hb, hx, hz, q1, q2⟩ := h
  cases rx
  cases ry
  obtain ⟨its, r1, p1, _⟩ := I.tuple ha
  obtain ⟨its2, r2, p2, _⟩ := I.tuple hb
  refine HT.cat_tup p1 p2 (fun z => hx (r1.nil_iff.mp z)) (fun z => ⟨.ref a, H, I, rfl, q1 (r2.nil_iff.mp z)⟩) (fun z => ?_) (by rw [← r1.length, ← r2.length]; exact hz)
  refine ⟨.ref s.heap.objs.size, _, I.laid (t' := s.toks) (o := .tup (xs ++ ys)) (fun b ob q => Heap.get?_push_of_some _ q) (Nat.le_refl _) ?_, rfl, q2 (fun w => z (r2.nil_iff.mpr w)) _ (I.hok.fresh (Nat.le_refl _))⟩
  exact ⟨by rw [List.length_append]; exact hz, _, 0, r1.append r2, Heap.get?_push_size _ rfl⟩
end
end L2

namespace L2
open PySem PySem.Spec PyProof.Rows

def ixN (n : Nat) (i : Int) : Option Nat := if 0 ≤ i then (if i < n then some i.toNat else none) else if -(n : Int) ≤ i then some (i + n).toNat else none
def atI {α : Type} (xs : List α) (i : Int) : Option α := (ixN xs.length i).bind fun j => xs[j]?
theorem ixN_seq {n : Nat} {i : Int} {j : Nat} (h : ixN n i = some j) : seqIndex? i n = some j ∧ j < n ∧ -(n : Int) ≤ i ∧ i < n := by
  unfold ixN at h
  by_cases h0 : 0 ≤ i
  · rw [if_pos h0] at h
    by_cases h1 : i < n
    · rw [if_pos h1] at h
      have e : i.toNat = j := Option.some.inj h
      exact ⟨by rw [seqIndex_of h0 h1, e], by omega, by omega, h1⟩
    · rw [if_neg h1] at h; cases h
  · rw [if_neg h0] at h
    by_cases h1 : -(n : Int) ≤ i
    · rw [if_pos h1] at h
      have e : (i + n).toNat = j := Option.some.inj h
      exact ⟨by rw [seqIndex_neg (by omega) h1, e], by omega, h1, by omega⟩
    · rw [if_neg h1] at h; cases h
theorem atI_get {α : Type} {xs : List α} {i : Int} {v : α} (h : atI xs i = some v) : ∃ j, seqIndex? i xs.length = some j ∧ xs[j]? = some v ∧ j < xs.length ∧ -(xs.length : Int) ≤ i ∧ i < xs.length := by
  unfold atI at h
  cases e : ixN xs.length i with
  | none => rw [e] at h; cases h
  | some j =>
    rw [e] at h
    obtain ⟨h1, h2, h3, h4⟩ := ixN_seq e
    exact ⟨j, h1, h, h2, h3, h4⟩
theorem atI_nat {α : Type} {xs : List α} {j : Nat} {v : α} (h : xs[j]? = some v) : atI xs (j : Int) = some v := by
  have hj : j < xs.length := (List.getElem?_eq_some_iff.mp h).1
  have e : ixN xs.length (j : Int) = some j := by
    unfold ixN
    rw [if_pos (by omega), if_pos (by omega)]; simp
  unfold atI; rw [e]; exact h
def PlainIx (b : Expr) : Prop := ∀ o i, subscripted b false o i = operate [o, i] (getItem o i)
def IxR (X : Cx) (r : R2) : Prop :=
  ∀ (value slice : Expr) (pins : List (Addr × Obj)) (s : Shared) (σ : St) (H : Hp) (x y : V) (v u : Value) (Q : VK), Inv X pins σ H s → RelV x v → RelV y u → r x y H Q →
    subscripted slice false v u = operate [v, u] (getItem v u) → wpAny (model X.prog X.w) X.A (subscriptTail value slice v u) (EP X pins σ Q) X.xe s
def MtR (X : Cx) (id : String) (r : V → List V → Hp → VK → Prop) : Prop :=
  ∀ (pins : List (Addr × Obj)) (s : Shared) (σ : St) (H : Hp) (x : V) (xs : List V) (v : Value) (us : List Value) (Q : VK), Inv X pins σ H s → RelV x v → Vals xs us → r x xs H Q →
    wpAny (model X.prog X.w) X.A (call (.builtin id) (v :: us)) (EP X pins σ Q) X.xe s
section
variable {X : Cx} {a b : Expr} {ta tb : TE} {pos : Pos}
theorem pe_ix {r : R2} (hr : IxR X r) (ha : PE X a ta) (hb : PE X b tb) (hs : PlainIx b) : PE X (.Subscript a b pos) (tOp r ta tb) := by
  intro pins s σ H Q I h
  exact Subscript_ (binT ha hb I h fun v u s2 x y H2 I2 rx ry q => hr a b pins s2 σ H2 x y v u Q I2 rx ry q (hs _ _))

def rIxL (K : PySem.W.Frag) : R2 := fun x y H Q => ∃ p xs i v, x = .ref p ∧ y = .int i ∧ SqL K H p xs ∧ atI xs i = some v ∧ Q v H
def rIxT (K : PySem.W.Frag) : R2 := fun x y H Q => ∃ p xs i v, x = .ref p ∧ y = .int i ∧ SqT K H p xs ∧ atI xs i = some v ∧ Q v H
theorem ix_list : IxR X (rIxL X.K) := by
  intro value slice pins s σ H x y v u Q I rx ry h hs
  obtain ⟨p, xs, i, z, rfl, rfl, hq, he, q⟩ := h
  cases rx
  obtain ⟨t, rfl⟩ := ry
  obtain ⟨its, r, pl, hz⟩ := I.list hq
  obtain ⟨j, h1, h2, h3, h4, h5⟩ := atI_get he
  obtain ⟨w, ew, rw'⟩ := r.get h2
  have hl := r.length
  have hn := line63
  have fin : EP X pins σ Q w s := ⟨z, H, I, rw', q⟩
  by_cases h0 : 0 ≤ i
  · have hj : i.toNat = j := by
      rw [seqIndex_of h0 h5] at h1
      exact Option.some.inj h1
    exact item_listR pl.isList h0 (by omega) (by rw [hj]; simpa using ew) fin hs
  · have hj : (i + (its.toArray.size : Int)).toNat = j := by
      rw [seqIndex_neg (by omega) h4] at h1
      rw [List.size_toArray, ← hl]
      exact Option.some.inj h1
    exact subscriptTail_builtinR (x := w) pl.isList.typeIs slot_list_getitem.lookup
      (wpAny_getItem_list_neg (Q := fun r s' => r = w ∧ EP X pins σ Q r s') pl.isList (by omega) (by rw [List.size_toArray] <;> omega) (by omega) (by rw [hj]; simpa using ew) ⟨rfl, fin⟩) hs
theorem ix_tup : IxR X (rIxT X.K) := by
  intro value slice pins s σ H x y v u Q I rx ry h hs
  obtain ⟨p, xs, i, z, rfl, rfl, hq, he, q⟩ := h
  cases rx
  obtain ⟨t, rfl⟩ := ry
  obtain ⟨its, r, pl, hz⟩ := I.tuple hq
  obtain ⟨j, h1, h2, h3, h4, h5⟩ := atI_get he
  obtain ⟨w, ew, rw'⟩ := r.get h2
  have hl := r.length
  have hn := line63
  have fin : EP X pins σ Q w s := ⟨z, H, I, rw', q⟩
  exact subscriptTail_builtinR (x := w) pl.typeIs slot_tuple_getitem.lookup
    (getItem_tuple (j := j) (Q := fun r s' => r = w ∧ EP X pins σ Q r s') pl (by omega) (by omega) (by rw [List.size_toArray, ← hl]; exact h1) (by simpa using ew) ⟨rfl, fin⟩) hs
theorem mapSeq_set (its : List Value) (n j : Nat) (u : Value) : Obj.mapSeq (·.setIfInBounds j u) { cls := .type "list", data := .seq its.toArray n } = { cls := .type "list", data := .seq (its.set j u).toArray n } := by
  simp [Obj.mapSeq]
theorem Inv.lst {pins : List (Addr × Obj)} {σ : St} {H : Hp} {s : Shared} {p : Addr} {xs : List V} (I : Inv X pins σ H s) (h : H p = some (.lst xs)) :
    ∃ (its : List Value) (n : Nat), Vals xs its ∧ s.heap.get? p = some { cls := .type "list", data := .seq its.toArray n } ∧ xs.length ≤ sizeLine := by
  obtain ⟨z, its, n, r, e⟩ := I.hok p _ h
  exact ⟨its, n, r, e, z⟩
theorem Inv.lstUpd {pins : List (Addr × Obj)} {σ : St} {H : Hp} {s : Shared} {p : Addr} {xs ys : List V} {its its' : List Value} {n n' : Nat} {f : Obj → Obj} (I : Inv X pins σ H s) (h : H p = some (.lst xs))
    (ho : s.heap.get? p = some { cls := .type "list", data := .seq its.toArray n }) (hf : f { cls := .type "list", data := .seq its.toArray n } = { cls := .type "list", data := .seq its'.toArray n' }) (r : Vals ys its') (hz : ys.length ≤ sizeLine) (t : Nat) :
    Inv X pins σ (upd H p (.lst ys)) { s with heap := s.heap.update p f, toks := t } := by
  have e : (s.heap.update p f).get? p = some { cls := .type "list", data := .seq its'.toArray n' } := by
    rw [Heap.get?_update_self f ho (by rw [hf] <;> rfl), hf]
  refine I.write (x := p) (e := p) (by rw [h]; trivial) (.inl rfl) (fun b u hb q => (Heap.get?_update_other _ _ (Ne.symm hb)).trans q) ⟨_, e⟩ ?_
  exact ⟨hz, its', n', r, e⟩
def rSetL : V → V → V → Hp → (Hp → Prop) → Prop := fun o i v H Q => ∃ p xs k j, o = .ref p ∧ i = .int k ∧ H p = some (.lst xs) ∧ ixN xs.length k = some j ∧ Q (upd H p (.lst (xs.set j v)))
theorem set_list : PSet X rSetL := by
  intro pins s σ H o i v ov iv u Q I ro ri rv h
  obtain ⟨p, xs, k, j, rfl, rfl, hp, hj, q⟩ := h
  cases ro
  obtain ⟨t, rfl⟩ := ri
  obtain ⟨its, n, r, ho, hz⟩ := I.lst hp
  obtain ⟨h1, h2, h3, h4⟩ := ixN_seq hj
  have hl := r.length
  have hn := line63
  have I' : Inv X pins σ (upd H p (.lst (xs.set j v))) { s with heap := s.heap.update p (Obj.mapSeq (·.setIfInBounds j u)) } :=
    I.lstUpd hp ho (mapSeq_set its n j u) (r.set rv j) (by rw [List.length_set]; exact hz) s.toks
  by_cases h0 : 0 ≤ k
  · have hk : k.toNat = j := by
      rw [seqIndex_of h0 h4] at h1
      exact Option.some.inj h1
    exact PySem.W.ki_setAt ho h0 (by omega) (by rw [List.size_toArray, ← hl]; exact h4) (by rw [hk]; exact ⟨_, I', q⟩)
  · have hk : (k + (its.toArray.size : Int)).toNat = j := by
      rw [seqIndex_neg (by omega) h3] at h1
      rw [List.size_toArray, ← hl]
      exact Option.some.inj h1
    exact PySem.W.ki_setBack ho (by omega) (by rw [List.size_toArray, ← hl]; exact h3) (by omega) (by rw [hk]; exact ⟨_, I', q⟩)

def flatV : V → Bool
  | .non => true
  | .bl _ => true
  | .int _ => true
  | .str _ => true
  | _ => false
def eqV : V → V → Bool
  | .non, .non => true
  | .bl a, .bl b => a == b
  | .bl a, .int b => (if a then 1 else 0) == b
  | .int a, .bl b => a == (if b then 1 else 0)
  | .int a, .int b => a == b
  | .str a, .str b => a == b
  | _, _ => false
theorem eqAt_V {A : Around} {s : Shared} {y x : V} {u v : Value} (ry : RelV y u) (rx : RelV x v) (fy : flatV y = true) (fx : flatV x = true) : SeqAt.EqAt A s u v (eqV y x) := by
  cases y with
  | non =>
    cases ry
    cases x with
    | non => cases rx; exact SeqAt.EqAt.same _
    | bl b => cases rx; exact SeqAt.EqAt.none_bool b
    | int b => obtain ⟨t, rfl⟩ := rx; exact SeqAt.EqAt.none_int b t
    | str b => obtain ⟨t, rfl⟩ := rx; exact SeqAt.EqAt.none_str b t
    | _ => exact absurd (show false = true from fx) Bool.false_ne_true
  | bl a =>
    cases ry
    cases x with
    | non => cases rx; exact SeqAt.EqAt.bool_none a
    | bl b => cases rx; exact SeqAt.EqAt.bool_bool a b
    | int b => obtain ⟨t, rfl⟩ := rx; exact SeqAt.EqAt.bool_int a b t
    | str b => obtain ⟨t, rfl⟩ := rx; exact SeqAt.EqAt.bool_str a b t
    | _ => exact absurd (show false = true from fx) Bool.false_ne_true
  | int a =>
    obtain ⟨t', rfl⟩ := ry
    cases x with
    | non => cases rx; exact SeqAt.EqAt.int_none a t'
    | bl b => cases rx; exact SeqAt.EqAt.int_bool a t' b
    | int b => obtain ⟨t, rfl⟩ := rx; exact SeqAt.EqAt.int_int a t' b t
    | str b => obtain ⟨t, rfl⟩ := rx; exact SeqAt.EqAt.int_str a t' b t
    | _ => exact absurd (show false = true from fx) Bool.false_ne_true
  | str a =>
    obtain ⟨t', rfl⟩ := ry
    cases x with
    | non => cases rx; exact SeqAt.EqAt.str_none a t'
    | bl b => cases rx; exact SeqAt.EqAt.str_bool a t' b
    | int b => obtain ⟨t, rfl⟩ := rx; exact SeqAt.EqAt.str_int a t' b t
    | str b => obtain ⟨t, rfl⟩ := rx; exact SeqAt.EqAt.str_str a t' b t
    | _ => exact absurd (show false = true from fx) Bool.false_ne_true
  | _ => exact absurd (show false = true from fy) Bool.false_ne_true
def eqU (x : V) (u : Value) : Bool := match u with
  | .none => eqV .non x
  | .bool b => eqV (.bl b) x
  | .int i _ => eqV (.int i) x
  | .str z _ => eqV (.str z) x
  | _ => false
theorem eqU_of {x y : V} {u : Value} (r : RelV y u) (f : flatV y = true) : eqU x u = eqV y x := by
  cases y with
  | non => cases r; rfl
  | bl b => cases r; rfl
  | int i => obtain ⟨t, rfl⟩ := r; rfl
  | str z => obtain ⟨t, rfl⟩ := r; rfl
  | _ => exact absurd (show false = true from f) Bool.false_ne_true
theorem any_eqU {x : V} : ∀ {xs : List V} {us : List Value}, Vals xs us → xs.all flatV = true → us.any (eqU x) = xs.any fun y => eqV y x
  | _, _, .nil, _ => rfl
  | y :: xs, u :: us, .cons r t, f => by
    rw [List.all_cons, Bool.and_eq_true] at f
    rw [List.any_cons, List.any_cons, eqU_of r f.1, any_eqU t f.2]
theorem mem_eqAt {A : Around} {s : Shared} {x : V} {v : Value} (rx : RelV x v) (fx : flatV x = true) : ∀ {xs : List V} {us : List Value}, Vals xs us → xs.all flatV = true → ∀ u ∈ us, SeqAt.EqAt A s u v (eqU x u)
  | _, _, .nil, _ => fun u hu => by cases hu
  | y :: xs, u :: us, .cons r t, f => fun u' hu => by
    rw [List.all_cons, Bool.and_eq_true] at f
    rcases List.mem_cons.mp hu with rfl | hu
    · rw [eqU_of r f.1]; exact eqAt_V r rx f.1 fx
    · exact mem_eqAt rx fx t f.2 u' hu
def inV (x : V) (xs : List V) : Bool := xs.any fun y => eqV y x
def rIn (K : PySem.W.Frag) (neg : Bool) : R2 := fun x y H Q => ∃ p xs, y = .ref p ∧ (SqL K H p xs ∨ SqT K H p xs) ∧ flatV x = true ∧ xs.all flatV = true ∧ Q (.bl (if neg then !inV x xs else inV x xs)) H
theorem op_in_seq : OpR X (compareOp .In) (rIn X.K false) := by
  intro pins s σ H x y v u Q I rx ry h
  obtain ⟨p, xs, rfl, hq, fx, fs, q⟩ := h
  cases ry
  rcases hq with hq | hq
  · obtain ⟨its, r, pl, hz⟩ := I.list hq
    refine SeqAt.in_listAt (eqU x) pl.isList (fun w hw => mem_eqAt rx fx r fs w (by simpa using hw)) ⟨.bl _, H, I, rfl, ?_⟩
    rw [show its.toArray.any (eqU x) = its.any (eqU x) by simp, any_eqU r fs]
    exact q
  · obtain ⟨its, r, pl, hz⟩ := I.tuple hq
    refine SeqAt.in_tupleAt (eqU x) pl (fun w hw => mem_eqAt rx fx r fs w (by simpa using hw)) ⟨.bl _, H, I, rfl, ?_⟩
    rw [show its.toArray.any (eqU x) = its.any (eqU x) by simp, any_eqU r fs]
    exact q
theorem op_notIn_seq : OpR X (compareOp .NotIn) (rIn X.K true) := by
  intro pins s σ H x y v u Q I rx ry h
  obtain ⟨p, xs, rfl, hq, fx, fs, q⟩ := h
  cases ry
  rcases hq with hq | hq
  · obtain ⟨its, r, pl, hz⟩ := I.list hq
    refine SeqAt.notIn_listAt (eqU x) pl.isList (fun w hw => mem_eqAt rx fx r fs w (by simpa using hw)) ⟨.bl _, H, I, rfl, ?_⟩
    rw [show its.toArray.any (eqU x) = its.any (eqU x) by simp, any_eqU r fs]
    exact q
  · obtain ⟨its, r, pl, hz⟩ := I.tuple hq
    refine SeqAt.notIn_tupleAt (eqU x) pl (fun w hw => mem_eqAt rx fx r fs w (by simpa using hw)) ⟨.bl _, H, I, rfl, ?_⟩
    rw [show its.toArray.any (eqU x) = its.any (eqU x) by simp, any_eqU r fs]
    exact q
theorem call_len_seq : CallR X (.builtin "len") (fun xs H Q => ∃ p ys, xs = [.ref p] ∧ (SqL X.K H p ys ∨ SqT X.K H p ys) ∧ Q (.int ys.length) H) := by
  intro pins s σ H xs us Q I r h
  obtain ⟨p, ys, rfl, hq, q⟩ := h
  obtain ⟨u, rfl, rx⟩ := vals1 r
  cases rx
  have hn := line63
  rcases hq with hq | hq
  · obtain ⟨its, r', pl, hz⟩ := I.list hq
    have hlen := r'.length
    exact Calls.call_len_list pl.isList (by simp only [List.size_toArray] <;> omega) ⟨.int ys.length, H, I.tok _, ⟨s.toks + 1, by rw [List.size_toArray, hlen]⟩, q⟩
  · obtain ⟨its, r', pl, hz⟩ := I.tuple hq
    have hlen := r'.length
    exact len_tuple pl (by simp only [List.size_toArray] <;> omega) ⟨.int ys.length, H, I.tok _, ⟨s.toks + 1, by rw [List.size_toArray, hlen]⟩, q⟩
theorem call_list_of : CallR X (.type "list") (fun xs H Q => ∃ p ys, xs = [.ref p] ∧ (SqL X.K H p ys ∨ SqT X.K H p ys) ∧ ∀ l, H l = none → Q (.ref l) (upd H l (.lst ys))) := by
  intro pins s σ H xs us Q I r h
  obtain ⟨p, ys, rfl, hq, q⟩ := h
  obtain ⟨u, rfl, rx⟩ := vals1 r
  cases rx
  have fin : ∀ (its : List Value), Vals ys its → ys.length ≤ sizeLine → ∀ (h' : Heap) (c' : Nat), (∀ b o', s.heap.get? b = some o' → h'.get? b = some o') →
      h'.get? s.heap.objs.size = some { cls := .type "list", dict := none, data := .seq its.toArray c', slots := #[] } → EP X pins σ Q (.ref s.heap.objs.size) { s with heap := h' } := fun its r' hz h' c' kp e =>
    ⟨.ref s.heap.objs.size, _, I.laid (t' := s.toks) kp (Nat.le_refl _) (show ObjOk X.prog X.w _ h' _ (.lst ys) from ⟨hz, its, c', r', e⟩), rfl, q _ (I.hok.fresh (Nat.le_refl _))⟩
  rcases hq with hq | hq
  · obtain ⟨its, r', pl, hz⟩ := I.list hq
    have hlen := r'.length
    obtain ⟨o, ho, hc, n, hd⟩ := pl.isList
    exact call_list_seq p (.inl rfl) ho hc hd (fun h' c' kp e => fin its r' hz h' c' kp e) (by simp only [List.size_toArray] <;> omega)
  · obtain ⟨its, r', pl, hz⟩ := I.tuple hq
    have hlen := r'.length
    obtain ⟨o, ho, hc, n, hd⟩ := pl
    exact call_list_seq p (.inr rfl) ho hc hd (fun h' c' kp e => fin its r' hz h' c' kp e) (by simp only [List.size_toArray] <;> omega)
theorem call_tuple_of : CallR X (.type "tuple") (fun xs H Q => ∃ p ys, xs = [.ref p] ∧ ((SqL X.K H p ys ∧ ∀ l, H l = none → Q (.ref l) (upd H l (.tup ys))) ∨ (SqT X.K H p ys ∧ Q (.ref p) H))) := by
  intro pins s σ H xs us Q I r h
  obtain ⟨p, ys, rfl, h⟩ := h
  obtain ⟨u, rfl, rx⟩ := vals1 r
  cases rx
  rcases h with ⟨hq, q⟩ | ⟨hq, q⟩
  · obtain ⟨its, r', pl, hz⟩ := I.list hq
    have hlen := r'.length
    refine call_tuple_list pl.isList (fun h' kp => ?_) (by simp only [List.size_toArray] <;> omega)
    have I1 : Inv X pins σ H { s with heap := h' } := I.kept (t' := s.toks) kp
    have I2 : Inv X pins σ (upd H h'.objs.size (.tup ys)) { s with heap := h'.push { cls := .type "tuple", data := .seq its.toArray } } :=
      I1.laid (t' := s.toks) (fun b o e => Heap.get?_push_of_some _ e) (Nat.le_refl _) (show ObjOk X.prog X.w _ _ _ (.tup ys) from ⟨hz, its, 0, r', Heap.get?_push_size _ rfl⟩)
    exact ⟨.ref h'.objs.size, _, I2, rfl, q _ (I1.hok.fresh (Nat.le_refl _))⟩
  · obtain ⟨its, r', pl, hz⟩ := I.tuple hq
    exact call_tuple_same pl ⟨.ref p, H, I, rfl, q⟩

def tyV (K : PySem.W.Frag) (T : String) (x : V) (H : Hp) : Prop := match x with
  | .str _ => T = "str"
  | .int _ => T = "int"
  | .ref p => (T = "list" ∧ ∃ xs, SqL K H p xs) ∨ (T = "tuple" ∧ ∃ xs, SqT K H p xs) ∨
      (T = "dict" ∧ ((∃ kvs, H p = some (.dK kvs)) ∨ ∃ kvs, H p = some (.dT kvs))) ∨ (T = "set" ∧ ∃ S n, H p = some (.set S n))
  | _ => False
theorem tyV_is {pins : List (Addr × Obj)} {σ : St} {H : Hp} {s : Shared} {T : String} {x : V} {v : Value} (I : Inv X pins σ H s) (r : RelV x v) (ty : tyV X.K T x H) :
    s.TypeIs v T ∧ ∀ a, v = .ref a → ∃ ob, s.heap.get? a = some ob ∧ ob.dict = none := by
  cases x with
  | str z =>
    obtain ⟨t, rfl⟩ := r
    cases (show T = "str" from ty)
    exact ⟨typeIs_str s z t, fun _ e => nomatch e⟩
  | int i =>
    obtain ⟨t, rfl⟩ := r
    cases (show T = "int" from ty)
    exact ⟨typeIs_int s i t, fun _ e => nomatch e⟩
  | ref p =>
    cases r
    rcases ty with ⟨rfl, xs, hq⟩ | ⟨rfl, xs, hq⟩ | ⟨rfl, hk⟩ | ⟨rfl, S, n, hk⟩
    · obtain ⟨its, _, pl, _⟩ := I.list hq
      refine ⟨pl.isList.typeIs, fun a e => ?_⟩
      cases e
      obtain ⟨o, n, e, c, hd, _⟩ := pl
      exact ⟨o, e, hd⟩
    · obtain ⟨o, e, hc, hd⟩ : ∃ o, s.heap.get? p = some o ∧ o.cls = .type "tuple" ∧ o.dict = none := by
        rcases hq with hq | ⟨o, _, _, hk, hc, hd, _⟩
        · obtain ⟨_, its, n, _, e⟩ := hq.ok I.hok
          exact ⟨_, e, rfl, rfl⟩
        · exact ⟨o, I.kIn p o hk, hc, hd⟩
      refine ⟨⟨o, e, hc⟩, fun a e2 => ?_⟩
      cases e2
      exact ⟨o, e, hd⟩
    · have z : ∃ o, s.heap.get? p = some o ∧ o.ExactDict := by
        rcases hk with ⟨kvs, hk⟩ | ⟨kvs, hk⟩
        · obtain ⟨_, _, _, _, o, _, _, e, ex, _⟩ := I.hok p _ hk
          exact ⟨o, e, ex⟩
        · obtain ⟨_, _, _, _, o, _, _, e, ex, _⟩ := I.hok p _ hk
          exact ⟨o, e, ex⟩
      obtain ⟨o, e, ex⟩ := z
      refine ⟨⟨o, e, ex.1⟩, fun a e2 => ?_⟩
      cases e2
      exact ⟨o, e, ex.2.1⟩
    · obtain ⟨o, _, _, _, e, ex, _⟩ := I.hok p _ hk
      refine ⟨⟨o, e, ex.1⟩, fun a e2 => ?_⟩
      cases e2
      exact ⟨o, e, ex.2.1⟩
  | _ => exact False.elim ty
def tBM (K : PySem.W.Frag) (T : String) (r : V → List V → Hp → VK → Prop) (to : TE) (t : TA) : TE := fun σ H Q => to σ H fun x H1 => tyV K T x H1 ∧ t σ H1 fun xs H2 => r x xs H2 Q
variable {o e : Expr} {es : List Expr} {to : TE} {t : TA} {name : Str} {apos cpos : Pos} {T id : String} {r : V → List V → Hp → VK → Prop}
theorem pe_bm (pa : PlainAttrs T) (slot : Slot T name id) (hty : typeOf (.builtin id) = pure (.type "method_descriptor")) (hm : MtR X id r) (ho : PE X o to) (ha : PA X (e :: es) t)
    (hbase : attributeBase o name X.env (eval o X.env) = eval o X.env := by rfl)
    (hfew : ((backTo cpos (starEach (e :: es) X.env)).all (fun x => !x.1) && (backToKw cpos (keywordEach [] X.env)).all (fun x => x.1.isSome)
      && decide ((e :: es).length + ([] : List Keyword).length + (if ([] : List Keyword).isEmpty then 0 else 1) < 30)) = true := by rfl)
    (hline : (apos.endLine == cpos.line) = true := by rfl) (hs : starEach (e :: es) X.env = (false, eval e X.env) :: starEach es X.env := by rfl) (hplain : (backTo cpos (starEach es X.env)).any (·.1) = false := by rfl) :
    PE X (.Call (.Attribute o name apos) (e :: es) [] cpos) (tBM X.K T r to t) := by
  intro pins s σ H Q I h
  refine wpAny_Call_method_late hbase hfew hline rfl (thn (ho pins s σ H _ I h) fun v s1 ⟨x, H1, I1, r1, ty, q1⟩ => ?_)
  obtain ⟨h1, h2⟩ := tyV_is I1 r1 ty
  refine ⟨T, id, pa, slot, hty, h1, h2, ?_⟩
  have hA := ha cpos pins s1 σ H1 _ I1 q1
  rw [hs] at hA ⊢
  refine Calls.callWith_builtin (by show (false || (backTo cpos (starEach es X.env)).any (·.1)) = false; rw [hplain] <;> rfl) (Calls.evalArgs_plain ?_)
  exact thn hA fun us s2 ⟨vs, H2, I2, r2, q2⟩ => hm pins s2 σ H2 x vs v us Q I2 r1 r2 q2
/- xs.append(e), list.index on a module's tuple .. are MtR facts of 06m -/
end
end L2

namespace L2
open PySem PySem.Spec PyProof.Rows

def MtM (X : Cx) (id : String) (r : V → List V → Hp → VK → Prop) : Prop :=
  ∀ (pins : List (Addr × Obj)) (s : Shared) (σ : St) (H : Hp) (x : V) (xs : List V) (v : Value) (us : List Value) (Q : VK), Inv X pins σ H s → RelV x v → Vals xs us → r x xs H Q →
    wpAny (model X.prog X.w) X.A (call (.builtin id) (v :: us)) (EP X pins σ Q) X.xe s

theorem Vals.one : ∀ {x : V} {us : List Value}, Vals [x] us → ∃ u, us = [u] ∧ RelV x u
  | _, _, .cons r .nil => ⟨_, rfl, r⟩
theorem Vals.two : ∀ {x y : V} {us : List Value}, Vals [x, y] us → ∃ u v, us = [u, v] ∧ RelV x u ∧ RelV y v
  | _, _, _, .cons r (.cons q .nil) => ⟨_, _, rfl, r, q⟩
theorem Vals.zero : ∀ {us : List Value}, Vals [] us → us = []
  | _, .nil => rfl
theorem Vals.eraseIdx : ∀ {xs : List V} {us : List Value} (i : Nat), Vals xs us → Vals (xs.eraseIdx i) (us.eraseIdx i)
  | _, _, _, .nil => .nil
  | _, _, 0, .cons _ t => t
  | _, _, i + 1, .cons r t => .cons r (Vals.eraseIdx i t)
theorem Vals.reverse {xs : List V} {us : List Value} (h : Vals xs us) : Vals xs.reverse us.reverse := by
  induction h with
  | nil => exact .nil
  | cons r t ih => rw [List.reverse_cons, List.reverse_cons]; exact Vals.append ih (.cons r .nil)
theorem Vals.rep {xs : List V} {us : List Value} (h : Vals xs us) : ∀ k : Nat, Vals (List.replicate k xs).flatten (List.replicate k us).flatten
  | 0 => .nil
  | k + 1 => by
    rw [List.replicate_succ, List.replicate_succ, List.flatten_cons, List.flatten_cons]
    exact Vals.append h (Vals.rep h k)
theorem foldl_rep (its : List Value) : ∀ (k : Nat) (acc : List Value),
    List.foldl (fun x1 x2 => x1 ++ x2) acc.toArray (List.replicate k its.toArray) = (acc ++ (List.replicate k its).flatten).toArray
  | 0, acc => by simp
  | k + 1, acc => by
    have e : acc.toArray ++ its.toArray = (acc ++ its).toArray := by simp
    have e2 : (acc ++ its) ++ (List.replicate k its).flatten = acc ++ (List.replicate (k + 1) its).flatten := by
      rw [List.replicate_succ, List.flatten_cons, List.append_assoc]
    rw [← e2, ← foldl_rep its k (acc ++ its), ← e, List.replicate_succ, List.foldl_cons]

section
variable {X : Cx} {pins : List (Addr × Obj)} {σ : St} {H : Hp} {s : Shared} {l b : Addr} {xs ys zs : List V}

theorem Inv.lset {its its' : List Value} {n : Nat} {f : Array Value → Array Value} {t' : Nat} (I : Inv X pins σ H s) (hH : H l = some (.lst xs))
    (e : s.heap.get? l = some { cls := .type "list", data := .seq its.toArray n }) (hf : f its.toArray = its'.toArray) (hv : Vals ys its') (hz : ys.length ≤ sizeLine) :
    Inv X pins σ (upd H l (.lst ys)) { s with heap := s.heap.update l (Obj.mapSeq f), toks := t' } := by
  have q := PySem.IsL.update e f
  rw [hf] at q
  refine I.write (x := l) (e := l) (by rw [hH]; exact trivial) (.inl rfl) (fun b' u hb hu => (Heap.get?_update_other s.heap (Obj.mapSeq f) (Ne.symm hb)).trans hu) ⟨_, q⟩ ?_
  exact ⟨hz, its', _, hv, q⟩
theorem Inv.lnew {its : List Value} {t' : Nat} (I : Inv X pins σ H s) (hv : Vals ys its) (hz : ys.length ≤ sizeLine) :
    Inv X pins σ (upd H s.heap.objs.size (.lst ys)) { s with heap := s.heap.push { cls := .type "list", data := .seq its.toArray }, toks := t' } :=
  I.laid (fun _ _ q => Heap.get?_push_of_some _ q) (Nat.le_refl _) ⟨hz, its, 0, hv, Heap.get?_push_size _ rfl⟩
theorem Inv.fresh (I : Inv X pins σ H s) : H s.heap.objs.size = none := I.hok.fresh (Nat.le_refl _)
theorem Inv.lstM (I : Inv X pins σ H s) (hH : H l = some (.lst xs)) : xs.length ≤ sizeLine ∧ ∃ (its : List Value) (n : Nat), Vals xs its ∧ xs.length = its.length ∧ s.heap.get? l = some { cls := .type "list", data := .seq its.toArray n } := by
  obtain ⟨z, its, n, r, e⟩ := I.hok l _ hH
  exact ⟨z, its, n, r, r.length, e⟩

end

section
variable {X : Cx}

def rAppend : V → List V → Hp → VK → Prop := fun x vs H Q => ∃ l xs y, x = .ref l ∧ vs = [y] ∧ H l = some (.lst xs) ∧ xs.length < sizeLine ∧ Q .non (upd H l (.lst (xs ++ [y])))
theorem mt_append : MtM X "list.append" rAppend := by
  intro pins s σ H x vs v us Q I rx rv h
  obtain ⟨l, xs, y, rfl, rfl, hH, hz, q⟩ := h
  cases rx
  obtain ⟨u, rfl, ru⟩ := rv.one
  obtain ⟨z, its, n, r, hl, e⟩ := I.lstM hH
  refine call_meets F.slot_list_append ⟨_, e, rfl⟩ F.entry_list_append (F.args_list_append_2 _ _) (PySem.list_append l its.toArray n u (by rw [List.size_toArray]; omega)) ⟨e, ?_⟩
  refine ⟨.non, _, I.lset (its' := its ++ [u]) hH e (by simp) (r.append (.cons ru .nil)) ?_, rfl, q⟩
  rw [List.length_append, List.length_singleton]
  omega

def rCat : R2 := fun x y H Q => ∃ l b xs zs, x = .ref l ∧ y = .ref b ∧ H l = some (.lst xs) ∧ H b = some (.lst zs) ∧ xs.length + zs.length ≤ sizeLine ∧ ∀ p, H p = none → Q (.ref p) (upd H p (.lst (xs ++ zs)))
theorem op_cat : OpR X (binaryOp .Add) rCat := by
  intro pins s σ H x y v u Q I rx ry h
  obtain ⟨l, b, xs, zs, rfl, rfl, hH, hB, hz, q⟩ := h
  cases rx
  cases ry
  obtain ⟨z, its, n, r, hl, e⟩ := I.lstM hH
  obtain ⟨z2, its2, n2, r2, hl2, e2⟩ := I.lstM hB
  refine PySem.P.add_list e e2 ?_ (by rw [List.size_toArray, List.size_toArray]; omega)
  have ea : its.toArray ++ its2.toArray = (its ++ its2).toArray := by simp
  rw [ea]
  exact ⟨.ref _, _, I.lnew (t' := s.toks) (r.append r2) (by rw [List.length_append]; omega), rfl, q _ I.fresh⟩
theorem len_rep {α : Type} (xs : List α) (k : Nat) : (List.replicate k xs).flatten.length = k * xs.length := by
  induction k with
  | zero => simp
  | succ k ih => rw [List.replicate_succ, List.flatten_cons, List.length_append, ih, Nat.succ_mul, Nat.add_comm]
end

section
variable {prog : Program} {w : World} {A : Around} {E : Value → Shared → Prop} {s : Shared}
end

section
variable {X : Cx}
end
end L2

namespace Att
open PySem PySem.W PySem.Calls PyProof.Rows

theorem ints_of_wellAll {P : Params} {h : Heap} : ∀ (ns : List Int) (vs : List Value), WellAll P h vs (ns.map WData.int) → IntsAre vs ns := by
  intro ns
  induction ns with
  | nil =>
    intro vs w
    rw [List.map_nil] at w
    cases w
    exact .nil
  | cons n ns ih =>
    intro vs w
    rw [List.map_cons] at w
    cases w with
    | cons a b =>
      cases a
      exact .cons _ _ (ih _ b)

theorem script_of {l : OpenLaw} {n : Nat} (hn : l.most = some n) {P : Params} {h : Heap} {args : List WData} {vals : List Value}
    (hpre : l.row.toRowW.claim.pre args = true) (hwl : WellAll P h vals args) :
    ∃ a vs ns, vals = [Value.ref a] ∧ args = [WData.list (ns.map WData.int)] ∧ h.get? a = some { cls := .type "list", data := .seq vs.toArray } ∧ IntsAre vs ns ∧ ns.length ≤ n := by
  have hsh : WShape.hasAll [] args [.list .int] = true := (pre_splitW hpre).1
  have hc : l.pre.holds [] { args := args } = true := (pre_splitW hpre).2
  obtain ⟨d, r, rfl, h1, h2⟩ := hasAllW_cons hsh
  obtain rfl := hasAllW_nil h2
  obtain ⟨xs, rfl, h3⟩ := hasW_list h1
  obtain ⟨ns, rfl⟩ := items_int h3
  have hlen : ns.length ≤ n := by
    unfold OpenLaw.pre at hc
    have h4 : (WTm.not (.lt (.lit (.int (n : Int))) (.len (.arg 0)))).holds [] { args := [.list (ns.map .int)] } = true := by
      have h4 := (holds_andW hc).1
      rw [hn] at h4
      exact h4
    have h5 := condW_of h4 (w_not (w_lt w_lit (w_len_list (w_arg rfl))))
    rw [List.length_map] at h5
    refine Nat.le_of_not_lt fun q => ?_
    have q' : (n : Int) < ((ns.length : Nat) : Int) := by omega
    first
      | (rw [decide_eq_true q'] at h5; exact absurd h5 (by decide))
      | (simp at h5; omega)
  cases hwl with
  | cons w1 w2 =>
    cases w2
    cases w1 with
    | list ho hall => exact ⟨_, _, ns, rfl, rfl, ho, ints_of_wellAll ns _ hall, hlen⟩

theorem post_true (l : OpenLaw) (args : List WData) : l.row.toRowW.claim.post args (.bool true) args = true :=
  postW_of (r := l.row.toRowW) (X := (true == true))
    (show WShape.has [] (.bool true) .bool = true by first | rfl | decide | simp [WShape.has, WShape.arms, WShape.armsAll])
    (show (WTm.eq .res (.lit (.bool true))).value [] { args := args, res := some (.bool true), after := args } = some (.bool (true == true)) from w_eq_bool (w_res rfl) w_lit) rfl

theorem attach_call {l : OpenLaw} {n : Nat} {q : Program} {loose : List Str} {XP : (Str → Option Value) → Heap → Prop} {YP : World → Heap → Prop} {d : DefRec}
    (hn : l.most = some n) (hdf : d.params.defaults = [])
    (call : ∀ (w : World) (s₀ s₁ : Shared) (mg mb : Str → Option Value) (fa : Addr) (o : Obj) (pm cd doc : Value) (a : Addr) (vs : List Value) (ns : List Int),
      Ground q loose [] XP w s₀ mg mb s₁.heap → YP w s₁.heap →
      s₁.heap.get? fa = some o → o.data = .func (docDef d.name d.params d.body d.scope pm cd doc) → s₁.heap.CodeRec cd d.name → mg d.name = some (.ref fa) →
      s₁.heap.get? a = some { cls := .type "list", data := .seq vs.toArray } → IntsAre vs ns → ns.length ≤ n → s₁.gens = #[] →
      codeAny (model l.prog w) callerA (.call (.ref fa) ⟨[.ref a], []⟩) (fun r s' => r = .ok (.ret (.bool true)) ∧ OldK s₁.heap s'.heap ∧ s'.os = s₁.os ∧ AllBare s'.gens) s₁) :
    WalkO q loose XP YP l.row.toRowW d [] (fun f vs => PySem.call f vs) := by
  intro w s₀ s₁ mg mb G Y fa o pm cd doc dV kV ho hd hcd hD hmg hg args vals as hpre hlay hrd hwl hlo
  obtain rfl : dV = .none := Dflts.none hD hdf
  obtain rfl : kV = .none := Dflts.noKw hD
  obtain ⟨a, vs, ns, rfl, rfl, hobj, hints, hlen⟩ := script_of hn hpre hwl
  refine enter_call (codeAny_mono (call w s₀ s₁ mg mb fa o pm cd doc a vs ns G Y ho (fd_plain hd) hcd hmg hobj hints hlen hg) fun r s' hq => ?_)
  obtain ⟨rfl, h2, h3, h4⟩ := hq
  exact ⟨.inl ⟨.bool true, .bool true, [], rfl, fun _ => rfl, .bool true, post_true l _, fun _ => ⟨List.Pairwise.nil, fun _ hm => (nomatch hm)⟩⟩, h2, h3, h4⟩

section
variable {prog : Program} {w : World} {A : Around} {E : Value → Shared → Prop} {s : Shared} {K : Frag}

end
end Att

namespace L2
open PySem PySem.Spec PyProof.Rows

theorem vals_ints : ∀ {vs : List Value} {ns : List Int}, IntsAre vs ns → Vals (ns.map V.int) vs
  | _, _, .nil => .nil
  | _, _, .cons n t h => .cons ⟨t, rfl⟩ (vals_ints h)

def Only (H : Hp) : Prop := ∀ b, H b = none ∨ ∃ o xs, H b = some (.frz o (.lst xs))

theorem law_call {P : Program} {w : World} {K : PySem.W.Frag} {mg mb : Str → Option Value} {CX : CXT} {k : Nat} {fa a : Addr} {fd : FuncData} {x : Str} {sp : Sp} {s₁ : Shared} {vs : List Value} {ns : List Int}
    (KX : K.In s₁.heap) (hns : s₁.heap.Ns mainGlobals mg) (hb : s₁.heap.Ns builtinsNs mb) (hbb : ∀ x : Str, x ≠ "__name__" → mb x = bootBuiltins x) (hlim : s₁.heap.NoLimit) (hmod : ∃ mm, s₁.heap.Ns sysModules mm) (hg : s₁.gens = #[])
    (ha : s₁.heap.get? a = some { cls := .type "list", data := .seq vs.toArray }) (hi : IntsAre vs ns) (hl : ns.length ≤ sizeLine) (hr : Room k callerA)
    (F : ∀ base : Heap, K.In base → base.Ns mainGlobals mg → FnOk P w K mg base CX k fa fd [x] sp) (hbind : ∀ (s : Shared) (u : Value), BindsTo s fd ⟨[u], []⟩ [(x, u)])
    (hsp : ∀ H : Hp, Only H → SqL K H a (ns.map V.int) → sp [.ref a] H (fun v _ => v = .bl true) fun _ _ _ => False)
    (hCX : ∀ H e s', CX [] H s₁ (fun _ _ _ => False) e s' → False) :
    codeAny (model P w) callerA (.call (.ref fa) ⟨[.ref a], []⟩) (fun r s' => r = .ok (.ret (.bool true)) ∧ OldK s₁.heap s'.heap ∧ s'.os = s₁.os ∧ AllBare s'.gens) s₁ := by
  have rv := vals_ints hi
  have lenV := hi.length
  -- from an abstract heap in which nothing but the script may be tracked
  have core : ∀ H : Hp, Only H → SqL K H a (ns.map V.int) → HOk P w H s₁.heap → (∀ b, H b ≠ none → b = a) → (H a ≠ none → K.lookup a = none) →
      codeAny (model P w) callerA (.call (.ref fa) ⟨[.ref a], []⟩) (fun r s' => r = .ok (.ret (.bool true)) ∧ OldK s₁.heap s'.heap ∧ s'.os = s₁.os ∧ AllBare s'.gens) s₁ := by
    intro H hO hS hok hA hK
    have base_of : ∀ {b : Addr} {o : Obj}, s₁.heap.get? b = some o → H b = none → (hidT s₁.heap H).get? b = some o := fun e n => hidT_get e n
    have noA : ∀ {b : Addr} {o : Obj} {es : Array DictEntry} {ep : Nat}, s₁.heap.get? b = some o → o.data = .dict es ep → H b = none := fun {b o es ep} e d => by
      cases q : H b with
      | none => rfl
      | some u =>
        have e' : b = a := hA b (by rw [q]; simp)
        subst e'
        rw [ha] at e; cases e
        have d' : Data.seq vs.toArray _ = Data.dict es ep := d
        cases d'
    have nsK : ∀ {b : Addr} {m : Str → Option Value}, s₁.heap.Ns b m → (hidT s₁.heap H).Ns b m := fun {b m} ⟨o, es, ep, e, d, r⟩ => ⟨o, es, ep, base_of e (noA e d), d, r⟩
    have hKb : K.In (hidT s₁.heap H) := fun b o e => base_of (KX b o e) (by
      cases q : H b with
      | none => rfl
      | some u =>
        have e' : b = a := hA b (by rw [q]; simp)
        subst e'
        rw [hK (by rw [q]; simp)] at e; cases e)
    have hM : Mod K mg (hidT s₁.heap H) := ⟨hKb, nsK hns, ⟨mb, nsK hb, hbb⟩, let ⟨mc, h1, h2⟩ := hlim; ⟨mc, nsK h1, h2⟩, let ⟨mm, h1⟩ := hmod; ⟨mm, nsK h1⟩⟩
    have e0 : Env0 P w K mg (hidT s₁.heap H) callerA [] s₁ H := ⟨rfl, hM, fun b o e => of_hidT e, Nat.le_of_eq (hidT_size _ _), trivial, fun b hb => absurd (show b ∈ ([] : List Addr) from hb) (by simp), hok, .of_eq hg⟩
    refine codeAny_mono ((F _ hKb (nsK hns)).run callerA [] s₁ H ⟨[.ref a], []⟩ [.ref a] [.ref a] _ _ hr e0 (hbind s₁ (.ref a)) (.cons rfl .nil) (hsp H hO hS)) fun r s' h => ?_
    cases r with
    | error e => exact (hCX H e s' h).elim
    | ok fl =>
      cases fl with
      | next => exact False.elim h
      | brk => exact False.elim h
      | cont => exact False.elim h
      | ret u =>
        obtain ⟨v, H', os, bare, un, hok', r', q⟩ := h
        have q' : v = .bl true := q
        subst q'
        obtain rfl : u = Value.bool true := r'
        refine ⟨rfl, OldK.of_keep fun b o e => ?_, os, bare⟩
        cases q : H b with
        | none => exact un.keep b o e q (by intro z; exact absurd (show b ∈ ([] : List Addr) from z) (by simp)) (by simp)
        | some u =>
          rcases hO b with z | ⟨ob, xs, z⟩
          · rw [q] at z; cases z
          · have z2 := un.frzs b ob _ z
            obtain ⟨e1, _⟩ := hok b _ z
            obtain ⟨e2, _⟩ := hok' b _ z2
            rw [e] at e1; cases e1
            exact e2
  cases hk : K.lookup a with
  | some o =>
    -- the script is one of the module's own objects
    have e := KX a o hk
    rw [ha] at e
    cases e
    refine core (fun _ => none) (fun _ => .inl rfl) (.inr ⟨_, vs.toArray, _, hk, rfl, rfl, rfl, by rw [List.size_toArray, lenV]; exact hl, by simpa using rv⟩) (fun b u z => by have z' : (none : Option HO) = some u := z; cases z') (fun b z => absurd rfl z) fun z => absurd rfl z
  | none =>
    refine core (fun b => if b = a then some (.frz { cls := .type "list", data := .seq vs.toArray } (.lst (ns.map V.int))) else none) (fun b => ?_) (.inl (.inr ⟨{ cls := .type "list", data := .seq vs.toArray }, if_pos rfl⟩)) (fun b u z => ?_) (fun b z => ?_) fun _ => hk
    · by_cases hb : b = a
      · exact .inr ⟨_, _, if_pos hb⟩
      · exact .inl (if_neg hb)
    · by_cases hb : b = a
      · have z' := (if_pos hb).symm.trans z
        cases z'
        subst hb
        exact ⟨ha, by rw [List.length_map]; exact hl, vs, _, rv, ha⟩
      · have z' := (if_neg hb).symm.trans z
        cases z'
    · by_cases hb : b = a
      · exact hb
      · exact absurd (if_neg hb) z
end L2

namespace L2
open PySem PySem.Spec PyProof.Rows

theorem walk_of {l : PySem.W.OpenLaw} {n k : Nat} {q : Program} {loose : List Str} {XP : (Str → Option Value) → Heap → Prop} {YP : World → Heap → Prop} {d : DefRec} {K : Params → PySem.W.Frag} {CX : World → CXT} {sp : World → Sp} {x : Str}
    (hn : l.most = some n) (hn2 : n ≤ sizeLine) (hdf : d.params.defaults = []) (hr : Room k callerA) (hq : importsNone q = true)
    (hY : ∀ (w : World) (h : Heap), YP w h → (K w.params).In h)
    (F : ∀ (w : World) (mg : Str → Option Value) (fa : Addr) (h : Heap), (K w.params).In h → h.Ns mainGlobals mg → mg d.name = some (.ref fa) →
      ∃ fd : FuncData, (∀ (s : Shared) (u : Value), BindsTo s fd ⟨[u], []⟩ [(x, u)]) ∧
        ∀ base : Heap, (K w.params).In base → base.Ns mainGlobals mg → FnOk l.prog w (K w.params) mg base (CX w) k fa fd [x] (sp w))
    (hsp : ∀ (w : World) (H : Hp) (a : Addr) (ns : List Int), ns.length ≤ n → Only H → SqL (K w.params) H a (ns.map V.int) → sp w [.ref a] H (fun v _ => v = .bl true) fun _ _ _ => False)
    (hCX : ∀ (w : World) (H : Hp) (s : Shared) (e : Value) (s' : Shared), CX w [] H s (fun _ _ _ => False) e s' → False) :
    PySem.W.WalkO q loose XP YP l.row.toRowW d [] (fun f vs => PySem.call f vs) := by
  refine Att.attach_call hn hdf fun w s₀ s₁ mg mb fa o pm cd doc a vs ns G Y ho hd hcd hmg hobj hints hlen hg => ?_
  have KX := hY w _ Y
  obtain ⟨fd, hb, hF⟩ := F w mg fa _ KX G.T.g hmg
  exact law_call KX G.T.g G.T.b G.T.builtins G.T.nolimit (let ⟨mm, h1, _⟩ := (G.T.seer hq).mods; ⟨mm, h1⟩) hg hobj hints (Nat.le_trans hlen hn2) hr hF hb (fun H hO hS => hsp w H a ns hlen hO hS) fun H e s' => hCX w H s₁ e s'
end L2

namespace L2
open PySem PySem.Spec PyProof.Rows

def defArgs (s : Stmt) : Arguments := match s with
  | .FunctionDef _ a _ _ _ _ _ _ _ _ => a
  | _ => { posonlyargs := [], args := [], vararg := none, kwonlyargs := [], kw_defaults := [], kwarg := none, defaults := [] }
def defBody (s : Stmt) : List Stmt := match s with
  | .FunctionDef _ _ b _ _ _ _ _ _ _ => b
  | _ => []
def defScope (s : Stmt) : Scope := match s with
  | .FunctionDef _ _ _ _ _ _ sc _ _ _ => sc
  | _ => { kind := .function, names := [], isGenerator := false, isCoroutine := false }

abbrev CX0 : CXT := fun _ _ _ _ _ _ => False
abbrev E0 : XK := fun _ _ _ => False
theorem pass0 {X : Cx} : Passes CX0 X E0 := fun _ _ _ _ _ _ _ h => h.elim

structure Fun (K : PySem.W.Frag) (x qual : Str) (st : Stmt) (f : Addr) (fd : FuncData) : Prop where
  ex : ∃ (oc : Value) (od : Option Addr) (kV doc pm : Value) (an : Option Addr) (cdv ct : Value) (osl : Array (Option Value)),
    fd = PySem.W.fnOf x qual (defArgs st) (defBody st) (defScope st) .none kV doc pm an cdv ct ∧ K.lookup f = some ⟨oc, od, .func fd, osl⟩ ∧ PySem.W.codeIn K cdv qual = true
  kp : PySem.W.keepIn K (.ref f) = true
section
variable {P : Program} {w : World} {K : PySem.W.Frag} {mg : Str → Option Value} {base : Heap}
theorem Fun.ok {x qual : Str} {st : Stmt} {f : Addr} {fd : FuncData} {N ps : List Str} {k : Nat} {sp : Sp} (F : Fun K x qual st f fd) (S : FnScope N ps (defScope st)) (len : ∀ vs H Q E, sp vs H Q E → vs.length = ps.length)
    (hbody : ∀ (cdv : Value) (A : Around) (outer : List Env) (s : Shared) (H : Hp) (vs : List V) (Q : VK) (E : XK), Room k (A.deeper (envOfC qual (defScope st) s.heap.objs.size f cdv)) → sp vs H Q E →
      ∃ t, PSs (cxOf CX0 P w K mg base N qual (defScope st) f cdv A outer s H E).nox (defBody st) t ∧ t { nx := fun _ H' => Q .non H', rt := Q } (start N vs) H) : FnOk P w K mg base CX0 (k + 1) f fd ps sp := by
  obtain ⟨oc, od, kV, doc, pm, an, cdv, ct, osl, rfl, lk, hcd⟩ := F.ex
  refine fn_of lk hcd S len fun A outer s H vs Q E hr hsp => ?_
  obtain ⟨t, h, q⟩ := hbody cdv A outer s H vs Q E hr hsp
  exact ⟨t, h.nox, q⟩
theorem Fun.binds {x qual : Str} {st : Stmt} {f : Addr} {fd : FuncData} {ps : List Str} (F : Fun K x qual st f fd)
    (h : ∀ (kV doc pm : Value) (an : Option Addr) (cdv ct : Value) (us : List Value), us.length = ps.length → bindArgs (PySem.W.fnOf x qual (defArgs st) (defBody st) (defScope st) .none kV doc pm an cdv ct) ⟨us, []⟩ = pure (ps.zip us)) : Binds K fd ps [] := by
  obtain ⟨oc, od, kV, doc, pm, an, cdv, ct, osl, rfl, lk, hcd⟩ := F.ex
  exact .all (h kV doc pm an cdv ct)
theorem fun_mk {x qual : Str} {st : Stmt} {f : Addr} {oc : Value} {od an : Option Addr} {osl : Array (Option Value)} {kV doc pm cdv ct : Value} (l : K.lookup f = some ⟨oc, od, .func (PySem.W.fnOf x qual (defArgs st) (defBody st) (defScope st) .none kV doc pm an cdv ct), osl⟩)
    (c : PySem.W.codeIn K cdv qual = true) (k : PySem.W.keepIn K (.ref f) = true) : Fun K x qual st f (PySem.W.fnOf x qual (defArgs st) (defBody st) (defScope st) .none kV doc pm an cdv ct) := ⟨⟨oc, od, kV, doc, pm, an, cdv, ct, osl, rfl, l, c⟩, k⟩
end
theorem small1000 {n : Nat} (h : n ≤ 1000) : n < sizeLine := Nat.lt_of_le_of_lt h (by decide)

section
variable {X : Cx}
theorem pv (i : Nat) {x : Str} {pos : Pos} (hN : X.N[i]? = some x := by rfl) (hv : Vis X.env.scope x := by first | exact Or.inl rfl | exact Or.inr (Or.inl rfl) | exact Or.inr (Or.inr rfl)) (hd : (x == ("__debug__" : Str)) = false := by decide)
    (hcd : (x == ("__classdict__" : Str)) = false := by decide) : PE X (.Name x pos) (tVar i) := pe_var hN hv hd hcd
end

theorem iteF {A B : Prop} (h : B) : if false = true then A else B := by
  rw [if_neg Bool.false_ne_true]
  exact h
theorem iteT {A B : Prop} (h : A) : if true = true then A else B := by
  rw [if_pos rfl]
  exact h
theorem ite2 {c A B : Prop} [Decidable c] (h1 : c → A) (h2 : ¬ c → B) : if c then A else B := by
  by_cases h : c
  · rw [if_pos h]
    exact h1 h
  · rw [if_neg h]
    exact h2 h
def Same (H H' : Hp) : Prop := ∀ b o, H b = some o → H' b = some o
theorem Same.refl (H : Hp) : Same H H := fun _ _ h => h
theorem Same.trans {H H1 H2 : Hp} (a : Same H H1) (b : Same H1 H2) : Same H H2 := fun c o h => b c o (a c o h)
theorem Same.free {H H' : Hp} (e : Same H H') {l : Addr} (h : H' l = Option.none) : H l = Option.none := by
  cases q : H l with
  | none => rfl
  | some o =>
    rw [e l o q] at h
    cases h
theorem Same.seq {K : PySem.W.Frag} {H H' : Hp} {a : Addr} {xs : List V} (e : Same H H') (h : SqL K H a xs) : SqL K H' a xs := by
  rcases h with (h | ⟨o, h⟩) | h
  · exact .inl (.inl (e _ _ h))
  · exact .inl (.inr ⟨o, e _ _ h⟩)
  · exact .inr h

end L2
set_option Elab.async false
set_option linter.all false
set_option maxRecDepth 100000
namespace L2
open PySem PySem.Spec PyProof.Rows

def clOf (env : Env) : List (Str × NameKind) → List (Str × Addr) → List (Str × Addr)
  | [], acc => acc
  | (n, k) :: r, acc => if k == .free then (match env.cells.lookup n with | some c => clOf env r ((n, c) :: acc) | none => clOf env r acc) else clOf env r acc

theorem clo_loop {env : Env} : ∀ (names : List (Str × NameKind)) (acc : List (Str × Addr)), (∀ y ∈ names, y.2 = .free → ∃ c, env.cells.lookup y.1 = some c) →
    (forIn names acc fun (x : Str × NameKind) (r : List (Str × Addr)) => (match x with
      | (name, kind) => if (kind == NameKind.free) = true then (do let a ← cellOf env name; pure (ForInStep.yield ((name, a) :: r))) else pure (ForInStep.yield r) : Sem (ForInStep (List (Str × Addr))))) = (pure (clOf env names acc) : Sem _)
  | [], acc, _ => rfl
  | (n, k) :: r, acc, h => by
    have ih := fun acc => clo_loop r acc fun y hy => h y (List.mem_cons_of_mem _ hy)
    rw [List.forIn_cons]
    by_cases hk : (k == NameKind.free) = true
    · obtain ⟨c, hc⟩ := h (n, k) List.mem_cons_self (by simpa using hk)
      have e1 : clOf env ((n, k) :: r) acc = clOf env r ((n, c) :: acc) := by
        show (if k == .free then _ else _) = _
        rw [if_pos hk]; simp only at hc; rw [hc]
      simp only at hc
      rw [e1, ← ih]
      simp only [hk, if_true, cellOf, hc]
      rfl
    · have e1 : clOf env ((n, k) :: r) acc = clOf env r acc := by
        show (if k == .free then _ else _) = _
        rw [if_neg hk]
      rw [e1, ← ih]
      simp only [hk, if_false]
      rfl
theorem clo_of {env : Env} {scope : Scope} (h : ∀ y ∈ scope.names, y.2 = .free → ∃ c, env.cells.lookup y.1 = some c) : closureFor scope env = pure (clOf env scope.names []) := by
  unfold closureFor
  have e := clo_loop scope.names [] h
  show (forIn scope.names [] _ >>= _) = _
  exact (congrArg (fun z => z >>= fun r => pure r) e).trans rfl
theorem clOf_mem {env : Env} : ∀ (names : List (Str × NameKind)) (acc : List (Str × Addr)) (n : Str) (c : Addr), (n, c) ∈ clOf env names acc → (n, c) ∈ acc ∨ env.cells.lookup n = some c
  | [], _, _, _, h => .inl h
  | (m, k) :: r, acc, n, c, h => by
    by_cases hk : (k == NameKind.free) = true
    · rw [show clOf env ((m, k) :: r) acc = (match env.cells.lookup m with | some c => clOf env r ((m, c) :: acc) | none => clOf env r acc) from if_pos hk] at h
      cases e : env.cells.lookup m with
      | none => rw [e] at h; exact clOf_mem r acc n c h
      | some d =>
        rw [e] at h
        rcases clOf_mem r _ n c h with q | q
        · rcases List.mem_cons.mp q with q | q
          · cases q; exact .inr e
          · exact .inl q
        · exact .inr q
    · rw [show clOf env ((m, k) :: r) acc = clOf env r acc from if_neg hk] at h
      exact clOf_mem r acc n c h
theorem clOf_has {env : Env} : ∀ (names : List (Str × NameKind)) (acc : List (Str × Addr)) (n : Str), ((∃ c, (n, c) ∈ acc) ∨ ((n, NameKind.free) ∈ names ∧ ∃ c, env.cells.lookup n = some c)) → ∃ c, (n, c) ∈ clOf env names acc
  | [], _, _, h => by
    rcases h with h | ⟨h, _⟩
    · exact h
    · cases h
  | (m, k) :: r, acc, n, h => by
    by_cases hk : (k == NameKind.free) = true
    · rw [show clOf env ((m, k) :: r) acc = (match env.cells.lookup m with | some c => clOf env r ((m, c) :: acc) | none => clOf env r acc) from if_pos hk]
      cases e : env.cells.lookup m with
      | none =>
        refine clOf_has r acc n ?_
        rcases h with h | ⟨h, c, hc⟩
        · exact .inl h
        · rcases List.mem_cons.mp h with h | h
          · cases h; rw [e] at hc; cases hc
          · exact .inr ⟨h, c, hc⟩
      | some d =>
        refine clOf_has r _ n ?_
        rcases h with ⟨c, h⟩ | ⟨h, c, hc⟩
        · exact .inl ⟨c, List.mem_cons_of_mem _ h⟩
        · rcases List.mem_cons.mp h with h | h
          · cases h; exact .inl ⟨d, List.mem_cons_self⟩
          · exact .inr ⟨h, c, hc⟩
    · rw [show clOf env ((m, k) :: r) acc = clOf env r acc from if_neg hk]
      refine clOf_has r acc n ?_
      rcases h with h | ⟨h, c, hc⟩
      · exact .inl h
      · rcases List.mem_cons.mp h with h | h
        · cases h; exact absurd rfl hk
        · exact .inr ⟨h, c, hc⟩
theorem lookup_memS {β : Type} : ∀ {l : List (Str × β)} {a : Str} {b : β}, l.lookup a = some b → (a, b) ∈ l := PySem.mem_of_lookup_some
theorem mem_lookupS {β : Type} : ∀ {l : List (Str × β)} {a : Str} {b : β}, (a, b) ∈ l → ∃ c, l.lookup a = some c
  | (k, v) :: l, a, b, h => by
    rw [List.lookup_cons]
    by_cases e : (a == k) = true
    · rw [e]; exact ⟨v, rfl⟩
    · have e' : (a == k) = false := by simpa using e
      rw [e']
      rcases List.mem_cons.mp h with h | h
      · cases h; simp at e
      · exact mem_lookupS h
theorem lookup_relabel {env : Env} (x : Str) : ∀ (names : List (Str × NameKind)),
    (names.map fun (n, k) => if (k == NameKind.free && env.scope.kind == .function && env.kindOf n == some .cell) then (n, NameKind.cell) else (n, k)).lookup x =
      (names.lookup x).map fun k => if (k == NameKind.free && env.scope.kind == .function && env.kindOf x == some .cell) then NameKind.cell else k
  | [] => rfl
  | (n, k) :: r => by
    have ih := lookup_relabel (env := env) x r
    rw [List.map_cons]
    by_cases e : (x == n) = true
    · have en : x = n := by simpa using e
      subst en
      dsimp only
      by_cases c : (k == NameKind.free && env.scope.kind == .function && env.kindOf x == some .cell) = true
      · rw [if_pos c, List.lookup_cons, List.lookup_cons, e]
        simp only [Option.map_some, c, if_true]
      · rw [if_neg c, List.lookup_cons, List.lookup_cons, e]
        simp only [Option.map_some, c]
        rfl
    · have e' : (x == n) = false := by simpa using e
      dsimp only
      by_cases c : (k == NameKind.free && env.scope.kind == .function && env.kindOf n == some .cell) = true
      · rw [if_pos c, List.lookup_cons, List.lookup_cons, e']; exact ih
      · rw [if_neg c, List.lookup_cons, List.lookup_cons, e']; exact ih

def cxComp (X : Cx) (scope : Scope) (N : List Str) (C : Addr) (s0 : Shared) (H0 : Hp) (fp : List Addr) : Cx where
  prog := X.prog
  w := X.w
  K := X.K
  mg := X.mg
  base := X.base
  A := X.A
  N := N
  s₀ := s0
  H₀ := H0
  env := compEnvC scope (clOf X.env scope.names []) C X.env
  outer := X.stack
  stack := X.stack
  ex := fp
  fn := fun _ => false
  calm := X.calm
  pn := []
  xe := fun _ _ => False
def compCheck (sc scope : Scope) (own : List Str) (frn : List Str) : Bool :=
  scope.kind == .function && scope.names.all (fun y => y.2 != .cell) && scope.names.all (fun y => y.2 != .local || scope.names.lookup y.1 == some .local) &&
  scope.names.all (fun y => y.2 != .free || sc.names.lookup y.1 == some .cell || sc.names.lookup y.1 == some .free) && decide (own ++ frn).Nodup &&
  own.all (fun x => scope.names.lookup x == some .local) && frn.all (fun x => scope.names.lookup x == some .free)
def blk (own : Nat) (fr : List Nat) (σ : St) : St := List.replicate own none ++ fr.map fun j => (σ[j]?).join
structure CompOk (X : Cx) (scope : Scope) (own : List Str) (fr : List Nat) (frn : List Str) : Prop where
  ck : compCheck X.env.scope scope own frn = true
  ix : ∀ (k : Nat) (x : Str), frn[k]? = some x → ∃ j : Nat, fr[k]? = some j ∧ X.N[j]? = some x
  len : fr.length = frn.length
section
variable {X : Cx} {scope : Scope} {own frn : List Str} {fr : List Nat}
theorem CompOk.parts (S : CompOk X scope own fr frn) : scope.kind = .function ∧ (∀ y ∈ scope.names, y.2 ≠ .cell) ∧ (∀ y ∈ scope.names, y.2 = .local → scope.names.lookup y.1 = some .local) ∧
    (∀ y ∈ scope.names, y.2 = .free → X.env.scope.names.lookup y.1 = some .cell ∨ X.env.scope.names.lookup y.1 = some .free) ∧ (own ++ frn).Nodup ∧ (∀ x ∈ own, scope.names.lookup x = some .local) ∧ ∀ x ∈ frn, scope.names.lookup x = some .free := by
  have h := S.ck
  unfold compCheck at h
  simp only [Bool.and_eq_true, List.all_eq_true, decide_eq_true_eq, Bool.or_eq_true, bne_iff_ne, ne_eq, beq_iff_eq] at h
  obtain ⟨⟨⟨⟨⟨⟨h1, h2⟩, h3⟩, h4⟩, h5⟩, h6⟩, h7⟩ := h
  refine ⟨h1, h2, fun y hy e => ?_, fun y hy e => ?_, h5, h6, h7⟩
  · rcases h3 y hy with z | z
    · exact absurd e z
    · exact z
  · rcases h4 y hy with (z | z) | z
    · exact absurd e z
    · exact .inl z
    · exact .inr z
theorem blk_length (S : CompOk X scope own fr frn) (σ : St) : (blk own.length fr σ).length = (own ++ frn).length := by
  unfold blk
  rw [List.length_append, List.length_append, List.length_replicate, List.length_map, S.len]

theorem inv_comp {pins : List (Addr × Obj)} {σ : St} {H : Hp} {s : Shared} {fp : List Addr} {h1 : Heap} {tk : Nat} {C D : Addr} {oD : Obj} {m : Str → Option Value} (I : Inv X pins σ H s) (S : CompOk X scope own fr frn)
    (hfp : ∀ b ∈ fp, FpOk X pins H b) (hlt : ∀ b ∈ fp, b < s.heap.objs.size) (hC : s.heap.objs.size ≤ C) (hn : h1.Ns C m) (hk : ∀ b o, s.heap.get? b = some o → h1.get? b = some o)
    (hD : s.heap.objs.size ≤ D) (hDC : D ≠ C) (hoD : h1.get? D = some oD) (hdD : ∀ v, oD.data ≠ .cell v) :
    Inv (cxComp X scope (own ++ frn) C s H fp) [(D, oD)] (blk own.length fr σ) H { s with heap := h1, toks := tk } := by
  obtain ⟨p1, p2, p3, p4, p5, p6, p7⟩ := S.parts
  have below : ∀ b, b < s.heap.objs.size → b ≠ C := fun b hb z => Nat.lt_irrefl _ (Nat.lt_of_lt_of_le (z ▸ hb) hC)
  have clsub : ∀ x c, (clOf X.env scope.names []).lookup x = some c → X.env.cells.lookup x = some c := fun x c e => by
    rcases clOf_mem _ _ _ _ (lookup_memS e) with q | q
    · cases q
    · exact q
  have clt : ∀ x c, X.env.cells.lookup x = some c → c < s.heap.objs.size := fun x c e => by
    obtain ⟨v, q⟩ := I.cell x c e
    exact q.lt
  have nstk : ∀ b ∈ fp, b ∉ frs X.stack := fun b hb z => by
    obtain ⟨_, f1, f2, _⟩ := hfp b hb
    rcases List.mem_cons.mp (I.stkSub b z) with e | e
    · exact f1 e
    · exact f2 e
  have Dfs : D ∉ frs X.stack := fun z => by
    have q := I.stkSub D z
    rcases List.mem_cons.mp q with e | e
    · exact Nat.lt_irrefl _ (Nat.lt_of_lt_of_le (e ▸ I.lt : D < _) hD)
    · exact I.nofs hD e
  refine ⟨⟨I.ok.mod, p1, I.ok.glob, I.ok.blt, hC, fun x y c e1 e2 => I.ok.inj x y c (clsub x c e1) (clsub y c e2), fun x hx => ?_, fun x c e => absurd e (by show ¬ (false = true); decide), I.ok.hd, I.ok.frames, .inl rfl, fun b hb => ?_, I.bs, Nat.le_trans I.ok.bsz I.sz, fun b o e hb => ?_, nstk, I.stack, I.stkFree⟩,
    rfl, I.bare, Un.kept hk, ⟨m, hn, fun i x v e1 e2 e3 => ?_⟩, fun x c e => ?_, I.hok.fresh hC, fun x c e => I.freeC x c (clsub x c e), fun p hp => ?_, I.hok.kept hk, blk_length S σ⟩
  · -- has
    have hx' : (relabel scope X.env).names.lookup x = some .cell ∨ (relabel scope X.env).names.lookup x = some .free := hx
    have hl : (relabel scope X.env).names.lookup x = _ := lookup_relabel (env := X.env) x scope.names
    rw [hl] at hx'
    cases e : scope.names.lookup x with
    | none =>
      rw [e] at hx'
      rcases hx' with z | z <;> cases z
    | some k =>
      have hmem := lookup_memS e
      have hkf : k = .free := by
        rw [e] at hx'
        simp only [Option.map_some, Option.some.injEq] at hx'
        by_cases c : (k == NameKind.free && X.env.scope.kind == .function && X.env.kindOf x == some .cell) = true
        · simp only [Bool.and_eq_true, beq_iff_eq] at c
          exact c.1.1
        · rw [if_neg c] at hx'
          rcases hx' with z | z
          · exact absurd z (p2 _ hmem)
          · exact z
      subst hkf
      obtain ⟨c, hc⟩ := I.ok.has x (p4 _ hmem rfl)
      obtain ⟨c', hc'⟩ := clOf_has (env := X.env) scope.names [] x (.inr ⟨hmem, c, hc⟩)
      exact mem_lookupS hc'
  · -- exf
    refine ⟨below b (hlt b hb), fun x c e => ?_⟩
    exact (hfp b hb).2.2.2.2.1 x c (clsub x c e)
  · -- noex
    rcases (hfp b hb).2.2.2.1 with z | z
    · exact I.ok.noex b o e z
    · exact absurd (Nat.lt_of_lt_of_le (Heap.lt_size (I.ok.bs b o e).1) z) (Nat.lt_irrefl _)
  · -- loc
    show ∃ u, RelV v u ∧ Look _ _ _ x u
    have e1' : (own ++ frn)[i]? = some x := e1
    have e2' : (blk own.length fr σ)[i]? = some (some v) := e2
    unfold blk at e2'
    by_cases hi : i < own.length
    · rw [List.getElem?_append_left (by simpa using hi), List.getElem?_replicate] at e2'
      rw [if_pos hi] at e2'
      cases e2'
    · rw [List.getElem?_append_right (by simpa using hi)] at e2'
      rw [List.getElem?_append_right (by omega)] at e1'
      rw [List.length_replicate, List.getElem?_map] at e2'
      obtain ⟨j, hj1, hj2⟩ := S.ix _ _ e1'
      rw [hj1] at e2'
      simp only [Option.map_some, Option.some.injEq] at e2'
      have hσ : σ[j]? = some (some v) := by
        cases q : σ[j]? with
        | none => rw [q] at e2'; cases e2'
        | some w => rw [q] at e2'; exact congrArg some e2'
      have hfree := p7 x (List.mem_of_getElem? e1')
      have hmem := lookup_memS hfree
      have kx := p4 _ hmem rfl
      have vis : Vis X.env.scope x := by
        rcases kx with z | z
        · exact .inr (.inl z)
        · exact .inr (.inr z)
      obtain ⟨m0, hn0, hl0⟩ := I.loc
      obtain ⟨u, ru, lk⟩ := hl0 j x v hj2 hσ vis
      refine ⟨u, ru, .inr ⟨?_, ?_⟩⟩
      · show (relabel scope X.env).names.lookup x = some .cell ∨ (relabel scope X.env).names.lookup x = some .free
        have hl : (relabel scope X.env).names.lookup x = _ := lookup_relabel (env := X.env) x scope.names
        rw [hl, hfree]
        simp only [Option.map_some, Option.some.injEq]
        by_cases c : (NameKind.free == NameKind.free && X.env.scope.kind == .function && X.env.kindOf x == some .cell) = true
        · rw [if_pos c]; exact .inl rfl
        · rw [if_neg c]; exact .inr rfl
      · rcases lk with ⟨kl, _⟩ | ⟨_, c, hc, hcell⟩
        · have kl' : X.env.scope.names.lookup x = some .local := kl
          rcases kx with z | z <;> (have z' : X.env.scope.names.lookup x = _ := z; rw [kl'] at z'; cases z')
        · obtain ⟨c', hc'⟩ := clOf_has (env := X.env) scope.names [] x (.inr ⟨hmem, c, hc⟩)
          obtain ⟨c2, hc2⟩ := mem_lookupS hc'
          have ec : c2 = c := by
            have := clsub x c2 hc2
            rw [hc] at this
            exact (Option.some.inj this).symm
          subst ec
          obtain ⟨oc, ho, hd⟩ := hcell
          exact ⟨c2, hc2, oc, hk _ _ ho, hd⟩
  · obtain ⟨v, o, ho, hd⟩ := I.cell x c (clsub x c e)
    exact ⟨v, o, hk _ _ ho, hd⟩
  · have hp' : p ∈ ([] : List (Addr × Obj)) ++ [(D, oD)] := hp
    simp only [List.nil_append, List.mem_singleton] at hp'
    subst hp'
    exact ⟨hoD, I.hok.fresh hD, hDC, Dfs, hdD⟩
end
end L2
set_option Elab.async false
set_option linter.all false
set_option maxRecDepth 100000
namespace L2
open PySem PySem.Spec PyProof.Rows

theorem compLoop_go {prog : Program} {w : World} {A : Around} {R : Result → Shared → Prop} {s : Shared} {elt target iter : Expr} {ifs : List Expr} {scope : Scope} {pos : Pos} {it acc : Value} {env : Env} (I : Nat → Shared → Prop)
    (turn : ∀ n s, I n s → wpAny (model prog w) A (pyNext it) (fun r s₁ => match r with
      | none => R (.ok .next) s₁
      | some v => wpAny (model prog w) A (letOwnedTupleGo target it v) (fun _ s₁' => wpAny (model prog w) A (assign target env v) (fun _ s₂ =>
          wpAny (model prog w) A (forIn ifs true fun c r => if r = true then do let ok ← isTrue c env (eval c env); pure (ForInStep.yield ok) else pure (ForInStep.yield r)) (fun ok s₃ =>
            if ok = true then wpAny (model prog w) A (eval elt env) (fun x s₄ =>
              wpAny (model prog w) A (call (.builtin "list.append") [acc, x]) (fun _ s₅ => ∃ m, m < n ∧ I m s₅) (fun _ _ => False) s₄) (fun _ _ => False) s₃
            else ∃ m, m < n ∧ I m s₃) (fun _ _ => False) s₂) (fun _ _ => False) s₁') (fun _ _ => False) s₁) (fun _ _ => False) s)
    (n : Nat) (h : I n s) :
    codeAny (model prog w) A (.compLoop (.ListComp elt [⟨target, iter, ifs, 0⟩] scope pos) 0 it acc env) R s := by
  refine codeAny_loop rfl I (fun n s hI => ?_) n h
  show wpAny _ A ((compTurn (.ListComp elt [⟨target, iter, ifs, 0⟩] scope pos) 0 it acc env).onRaise (fun x => do noteFrame x env; theTreesLotGoes x)) _ _ s
  refine wpAny_noted ?_
  rw [compTurn_list]
  refine wpAny_bind (wpAny_standAt (wpAny_bind (wpAny_mono (turn n s hI) (fun r s₁ h₁ => ?_) fun _ _ h' => h'.elim)))
  cases r with
  | none => exact wpAny_pure h₁
  | some v =>
    refine wpAny_bind (wpAny_mono h₁ (fun _ s₁' h₁' => ?_) fun _ _ h' => h'.elim)
    refine wpAny_bind (wpAny_mono h₁' (fun _ s₂ h₂ => wpAny_bind (wpAny_mono h₂ (fun ok s₃ h₃ => ?_) fun _ _ h' => h'.elim)) fun _ _ h' => h'.elim)
    cases ok with
    | false => exact wpAny_pure ⟨rfl, h₃⟩
    | true =>
      exact wpAny_bind (wpAny_bind (wpAny_mono h₃ (fun x s₄ h₄ => wpAny_bind (wpAny_mono h₄ (fun _ s₅ h₅ => wpAny_pure (wpAny_pure ⟨rfl, h₅⟩)) fun _ _ h' => h'.elim)) fun _ _ h' => h'.elim))

def PF (X : Cx) (ifs : List Expr) (t : TT) : Prop :=
  ∀ (pins : List (Addr × Obj)) (s : Shared) (σ : St) (H : Hp) (Q : Bool → Hp → Prop), Inv X pins σ H s → t σ H Q →
    wpAny (model X.prog X.w) X.A (forIn ifs true fun c r => if r = true then do let ok ← isTrue c X.env (eval c X.env); pure (ForInStep.yield ok) else pure (ForInStep.yield r)) (TP X pins σ Q) X.xe s
def tAll : TT := fun _ H Q => Q true H
theorem pf_nil {X : Cx} : PF X [] tAll := fun _ _ _ H _ I h => wpAny_tests_nil ⟨H, I, h⟩
theorem pf_one {X : Cx} {c : Expr} {t : TT} (h : PT X c t) : PF X [c] t := fun pins s σ H Q I hq => wpAny_tests_one (h pins s σ H Q I hq)

def tComp (own : Nat) (fr : List Nat) (wi : TI) (g : TG) (tt : TT) (te : TE) : TE := fun σ H Q => wi σ H fun J H1 => ∃ W : Nat → Nat → List V → St → Hp → Prop, (∃ m, W 0 m [] (blk own fr σ) H1) ∧ ∀ i m ys σ' H, W i m ys σ' H →
  (J.stop i H ∧ ∀ p, H p = none → Q (.ref p) (upd H p (.lst ys))) ∨
  (J.go i H ∧ ∃ N : List V → St → Hp → Prop, (∀ ys' σ2 H2, N ys' σ2 H2 → ∃ m', m' < m ∧ W (i + 1) m' ys' σ2 H2) ∧
    ∀ x H', J.yld i H x H' → g x σ' H' fun σ2 H2 => tt σ2 H2 fun b H3 => if b = true then te σ2 H3 fun y H4 => ys.length < sizeLine ∧ N (ys ++ [y]) σ2 H4 else N ys σ2 H3)

section
variable {X : Cx} {scope : Scope} {own frn : List Str} {fr : List Nat} {elt tg iter : Expr} {ifs : List Expr} {pos : Pos} {wi : TI} {g : TG} {tt : TT} {te : TE}

theorem Inv.track {pins : List (Addr × Obj)} {σ : St} {H : Hp} {s : Shared} {D : Addr} {ys : List V} {its : Array Value} (I : Inv X pins σ H s) (hD : s.heap.PlainList D its) (hv : Vals ys its.toList) (hz : ys.length ≤ sizeLine) (hn : H D = none) (hL : D ≠ X.env.locals)
    (h1 : X.s₀.heap.objs.size ≤ D) (h2 : ∀ x c, X.env.cells.lookup x = some c → c ≠ D) (h3 : ∀ p ∈ X.pn ++ pins, p.1 ≠ D) : Inv X pins σ (upd H D (.lst ys)) s := by
  have ne : ∀ b u, H b = some u → b ≠ D := fun b u e z => by rw [z, hn] at e; cases e
  refine I.step (g' := s.gens) (d' := s.drawn) (t' := s.toks) (h' := s.heap) (ch := [D]) (fun b hb => ?_) (fun b o _ _ _ e _ => e) (fun b o _ _ _ e _ => ⟨o.slots, e⟩) (fun b o hc _ n => ?_) (fun b o _ e => ⟨o, e⟩)
    (fun b xs e => by rw [upd_ne (ne b _ e)]; exact e) (fun b o u e => by rw [upd_ne (ne b _ e)]; exact e) (fun b ps e => ⟨#[], by rw [upd_ne (ne b _ e), e]; simp⟩) (fun _ h => h) (fun b u e => ?_) I.bare
  · have e : b = D := by simpa using hb
    subst e
    exact ⟨.inr h1, hL, h2, h3⟩
  · rw [upd_ne (by simpa using hc)]; exact n
  · by_cases hb : b = D
    · subst hb
      rw [upd_same] at e; cases e
      obtain ⟨n, e⟩ := hD
      exact ⟨hz, its.toList, n, hv, by simpa using e⟩
    · rw [upd_ne hb] at e
      exact (I.hok b u e).stay (fun c v _ q => q) (fun c q => by rw [upd_ne (ne c _ q)]; exact q) fun c xs q => by rw [upd_ne (ne c _ q)]; exact q

theorem comp_block {pins : List (Addr × Obj)} {σ : St} {H2 : Hp} {s2 : Shared} {it : Addr} {fp : List Addr} {tn : Nat → Heap → Prop} {J : It} {RR : Value → Addr → Result → Shared → Prop} {E : Value → Shared → Prop} {Q : Hp → List V → Prop}
    (S : CompOk X scope own fr frn) (hc : X.calm = true) (I2 : Inv X pins σ H2 s2) (T : Turn X.prog X.w X.K tg J fp it tn) (st2 : tn 0 s2.heap) (f2 : ∀ b ∈ fp, FpOk X pins H2 b)
    (hg : ∀ C s0 H0 fp, PG (cxComp X scope (own ++ frn) C s0 H0 fp) tg g) (ht : ∀ C s0 H0 fp, PF (cxComp X scope (own ++ frn) C s0 H0 fp) ifs tt) (he : ∀ C s0 H0 fp, PE (cxComp X scope (own ++ frn) C s0 H0 fp) elt te)
    (w : ∃ W : Nat → Nat → List V → St → Hp → Prop, (∃ m, W 0 m [] (blk own.length fr σ) H2) ∧ ∀ i m ys σ' H, W i m ys σ' H →
      (J.stop i H ∧ Q H ys) ∨
      (J.go i H ∧ ∃ N : List V → St → Hp → Prop, (∀ ys' σ2 H2, N ys' σ2 H2 → ∃ m', m' < m ∧ W (i + 1) m' ys' σ2 H2) ∧
        ∀ x H', J.yld i H x H' → g x σ' H' fun σ2 H2 => tt σ2 H2 fun b H3 => if b = true then te σ2 H3 fun y H4 => ys.length < sizeLine ∧ N (ys ++ [y]) σ2 H4 else N ys σ2 H3))
    (hRR : ∀ (C D : Addr) (s' : Shared) (H' : Hp) (ys : List V) (its : Array Value) (m : Str → Option Value), s2.heap.objs.size ≤ C → s2.heap.objs.size ≤ D → D ≠ C → s'.heap.Ns C m → H' C = none → H' D = none → s'.heap.PlainList D its → Vals ys its.toList → ys.length ≤ sizeLine →
      Inv X pins σ H' s' → Q H' ys → RR (.ref D) C (.ok .next) s') :
    wpAny (model X.prog X.w) X.A (newList []) (fun acc s₃ => wpAny (model X.prog X.w) X.A (newFunctionEnv scope X.env.globals (clOf X.env scope.names []) [] X.env.qual none .none (some X.env)) (fun cenv s₄ =>
      codeAny (model X.prog X.w) X.A (.compStart (.ListComp elt [⟨tg, iter, ifs, 0⟩] scope pos) 0 (.ref it) acc { cenv with scope := relabel scope X.env }) (RR acc cenv.locals) s₄) E s₃) E s2 := by
  obtain ⟨p1, p2, p3, p4, p5, p6, p7⟩ := S.parts
  obtain ⟨W, ⟨m0, w0⟩, turn⟩ := w
  refine wpAny_newObj_type (wpAny_newFunctionEnv p2 (by intro y hy; simp at hy) (fun h₁ hns₁ hsb₁ => ?_) p1)
  dsimp only at hns₁ hsb₁ ⊢
  generalize hH2 : s2.heap.push { cls := .type "list", dict := none, data := .seq ([] : List Value).toArray } = HD at hns₁ hsb₁ ⊢
  have hCs : HD.objs.size = s2.heap.objs.size + 1 := by rw [← hH2, Heap.size_push]
  have hDC : s2.heap.objs.size ≠ HD.objs.size := by omega
  have hCle : s2.heap.objs.size ≤ HD.objs.size := by omega
  have below : ∀ b, b < s2.heap.objs.size → b ≠ HD.objs.size ∧ b ≠ s2.heap.objs.size := fun b hb => ⟨by omega, by omega⟩
  have old : ∀ b o, s2.heap.get? b = some o → h₁.get? b = some o := fun b o e => hsb₁.extBut b o (below b (Heap.lt_size e)).1 (Heap.get?_push_of_some _ (hH2 ▸ Heap.get?_push_of_some _ e))
  have hacc : h₁.get? s2.heap.objs.size = some { cls := .type "list", data := .seq ([] : List Value).toArray } := hsb₁.extBut _ _ hDC (Heap.get?_push_of_some _ (hH2 ▸ Heap.get?_push_size _ rfl))
  have flt : ∀ b ∈ fp, b < s2.heap.objs.size := fun b hb => by
    obtain ⟨o, e, _⟩ := T.obj _ _ st2 b hb
    exact Heap.lt_size e
  generalize hDg : s2.heap.objs.size = D at *
  generalize hCg : HD.objs.size = C at *
  have st3 : tn 0 h₁ := T.keep _ _ _ st2 fun b _ o e => old b o e
  -- facts of the block
  have clsub : ∀ x c, (clOf X.env scope.names []).lookup x = some c → X.env.cells.lookup x = some c := fun x c e => by
    rcases clOf_mem _ _ _ _ (lookup_memS e) with q | q
    · cases q
    · exact q
  have cD : ∀ x c, (clOf X.env scope.names []).lookup x = some c → c ≠ D := fun x c e z => by
    obtain ⟨v, q⟩ := I2.cell x c (clsub x c e)
    exact Nat.lt_irrefl _ (Nat.lt_of_lt_of_le q.lt (by rw [hDg, z]; exact Nat.le_refl _))
  have loop : ∀ s₃ : Shared, s₃ = { s2 with heap := h₁, toks := s2.toks + ([] : List (Str × Value)).length } →
      codeAny (model X.prog X.w) X.A (.compLoop (.ListComp elt [⟨tg, iter, ifs, 0⟩] scope pos) 0 (.ref it) (.ref D) (compEnvC scope (clOf X.env scope.names []) C X.env)) (RR (.ref D) C) s₃ := by
    rintro s₃ rfl
    have I3 : Inv (cxComp X scope (own ++ frn) C s2 H2 fp) [(D, _)] (blk own.length fr σ) H2 { s2 with heap := h₁, toks := s2.toks + ([] : List (Str × Value)).length } :=
      inv_comp (m := fun _ => none) I2 S f2 (by rw [hDg]; exact flt) (by rw [hDg]; exact hCle) (hns₁ : h₁.Ns C _) old (by rw [hDg]; exact Nat.le_refl _) hDC hacc (fun v z => by cases z)
    have stat : ∀ {H' : Hp} {pl : List (Addr × Obj)}, (∀ p ∈ pl, p.1 = D) → (∀ b ∈ fp, H' b = none) → ∀ b ∈ fp, FpOk (cxComp X scope (own ++ frn) C s2 H2 fp) pl H' b := fun {H' pl} hpl hn b hb => by
      refine ⟨hn b hb, (below b (flt b hb)).1, fun z => ?_, .inl hb, fun x c e => (f2 b hb).2.2.2.2.1 x c (clsub x c e), fun p hp => ?_⟩
      · have z' : b ∈ frs X.stack := z
        rcases List.mem_cons.mp (I2.stkSub b z') with e | e
        · exact (f2 b hb).2.1 e
        · exact (f2 b hb).2.2.1 e
      · have hp' : p ∈ pl := by simpa [cxComp] using hp
        rw [hpl p hp']
        exact Ne.symm (below b (flt b hb)).2
    refine compLoop_go (env := compEnvC scope (clOf X.env scope.names []) C X.env) (fun n s' => ∃ i σ' H' ys its o, Inv (cxComp X scope (own ++ frn) C s2 H2 fp) [(D, o)] σ' H' s' ∧ s'.heap.PlainList D its ∧ Vals ys its.toList ∧ ys.length ≤ sizeLine ∧ tn i s'.heap ∧ (∀ b ∈ fp, H' b = none) ∧ W i n ys σ' H') ?_ m0
      ⟨0, _, H2, [], #[], _, I3, ⟨_, hacc⟩, .nil, Nat.zero_le _, st3, fun b hb => (f2 b hb).1, w0⟩
    rintro n s5 ⟨i, σ5, H5, ys, its, o, I5, pl5, v5, z5, st5, fr5, w5⟩
    have one : ∀ {o : Obj}, ∀ p ∈ [(D, o)], p.1 = D := fun p hp => by
      have e := List.mem_singleton.mp hp
      rw [e]
    rcases turn i n ys σ5 H5 w5 with ⟨stop, qn⟩ | ⟨go, N, hN, step⟩
    · refine wpAny_mono (T.done (cxComp X scope (own ++ frn) C s2 H2 fp) rfl rfl rfl hc i _ s5 σ5 H5 (fun _ _ => False) I5 (stat one fr5) st5 stop) (fun r s6 ⟨hr, I6⟩ => ?_) fun _ _ z => z
      subst hr
      obtain ⟨m6, hn6, _⟩ := I6.loc
      have p6 := I6.pin (D, o) (by simp [cxComp])
      have p5' := I5.pin (D, o) (by simp [cxComp])
      have pl6 : s6.heap.PlainList D its := by
        obtain ⟨k, e⟩ := pl5
        have e1 : o = _ := Option.some.inj (p5'.1.symm.trans e)
        exact ⟨k, by rw [p6.1]; exact congrArg some e1⟩
      have IX : Inv X pins σ H5 s6 := I2.call' (ch := fp) I6.os I6.base I6.hok I6.bare fun b hb => ⟨(f2 b hb).2.2.2.1, (f2 b hb).2.1, (f2 b hb).2.2.2.2.1, (f2 b hb).2.2.2.2.2⟩
      exact hRR C D s6 H5 ys its m6 hCle (Nat.le_refl _) hDC hn6 I6.free p6.2.1 pl6 v5 z5 IX qn
    · refine wpAny_mono (T.item (cxComp X scope (own ++ frn) C s2 H2 fp) rfl rfl rfl hc i _ s5 σ5 H5 (fun _ _ => False) I5 (stat one fr5) st5 go) (fun r s6 ⟨u, hr, h6⟩ => ?_) fun _ _ z => z
      subst hr
      refine wpAny_mono h6 (fun _ s7 ⟨x, H7, I7, r7, y7, st7, fr7⟩ => ?_) fun _ _ z => z
      have I7' := I7.pinned (stat one fr7) (T.obj _ _ st7)
      refine wpAny_mono (hg C s2 H2 fp _ s7 σ5 H7 x u _ I7' r7 (step x H7 y7)) (fun _ s8 ⟨σ8, H8, I8, q8⟩ => ?_) fun _ _ z => z
      refine wpAny_mono (ht C s2 H2 fp _ s8 σ8 H8 _ I8 q8) (fun b s9 ⟨H9, I9, q9⟩ => ?_) fun _ _ z => z
      -- what stands of the iterator and of the gathered list behind the tests, behind the item
      have keepT : ∀ {H' : Hp} {s' : Shared} {σ' : St}, Inv (cxComp X scope (own ++ frn) C s2 H2 fp) ([(D, o)] ++ pinsAt fp s7.heap) σ' H' s' → tn (i + 1) s'.heap ∧ (∀ b ∈ fp, H' b = none) ∧ s'.heap.PlainList D its ∧ H' D = none := fun {H' s' σ'} I' => by
        refine ⟨T.keep _ _ _ st7 fun b hb o e => (I'.pin (b, o) (List.mem_append_right _ (List.mem_append_right _ (mem_pinsAt hb e)))).1, fun b hb => ?_, ?_, ?_⟩
        · obtain ⟨o, e, d⟩ := T.obj _ _ st7 b hb
          exact (I'.pin (b, o) (List.mem_append_right _ (List.mem_append_right _ (mem_pinsAt hb e)))).2.1
        · have p' := I'.pin (D, o) (by simp [cxComp])
          have p5' := I5.pin (D, o) (by simp [cxComp])
          obtain ⟨k, e⟩ := pl5
          have e1 : o = _ := Option.some.inj (p5'.1.symm.trans e)
          exact ⟨k, by rw [p'.1]; exact congrArg some e1⟩
        · exact (I'.pin (D, o) (by simp [cxComp])).2.1
      cases b with
      | false =>
        rw [if_neg Bool.false_ne_true] at q9
        rw [if_neg Bool.false_ne_true]
        obtain ⟨m', hm, w'⟩ := hN ys σ8 H9 q9
        obtain ⟨t9, fr9, pl9, _⟩ := keepT I9
        exact ⟨m', hm, i + 1, σ8, H9, ys, its, o, I9.unpinned, pl9, v5, z5, t9, fr9, w'⟩
      | true =>
        rw [if_pos rfl] at q9
        rw [if_pos rfl]
        refine wpAny_mono (he C s2 H2 fp _ s9 σ8 H9 _ I9 q9) (fun y s10 ⟨yv, H10, I10, r10, lt10, q10⟩ => ?_) fun _ _ z => z
        obtain ⟨t10, fr10, pl10, hD10⟩ := keepT I10
        have hl := v5.length
        refine wpAny_list_append_plain pl10 (fun h11 pl11 sb11 => ?_) (by rw [← Array.length_toList, ← hl]; exact Nat.le_of_lt lt10)
        obtain ⟨m', hm, w'⟩ := hN _ σ8 H10 q10
        have I10' : Inv (cxComp X scope (own ++ frn) C s2 H2 fp) [] σ8 H10 s10 := I10.pins_of fun p hp => by cases hp
        have I11 : Inv (cxComp X scope (own ++ frn) C s2 H2 fp) [] σ8 H10 { s10 with heap := h11 } :=
          I10'.turned (t' := s10.toks) (it := D) (fun b o hb e => (sb11.2 b hb).trans e) hD10 hDC (.inr (by show s2.heap.objs.size ≤ D; rw [hDg]; exact Nat.le_refl _)) cD (fun p hp => by simp [cxComp] at hp)
        obtain ⟨k11, e11⟩ := id pl11
        have DfsX : D ∉ frs X.stack := fun z => by
          rcases List.mem_cons.mp (I2.stkSub D z) with e | e
          · exact Nat.lt_irrefl _ (Nat.lt_of_lt_of_le I2.lt (by rw [hDg, e]; exact Nat.le_refl _))
          · exact I2.nofs (by rw [hDg]; exact Nat.le_refl _) e
        refine ⟨m', hm, i + 1, σ8, H10, ys ++ [yv], its.push y, { cls := .type "list", data := .seq (its.push y) k11 }, I11.pins_of fun p hp => ?_, pl11, ?_, by rw [List.length_append]; show ys.length + 1 ≤ _; omega, T.keep _ _ _ t10 fun b hb o e => (sb11.2 b (below b (flt b hb)).2).trans e, fr10, w'⟩
        · have e := List.mem_singleton.mp hp
          subst e
          exact ⟨e11, hD10, hDC, DfsX, fun v z => by cases z⟩
        · rw [Array.toList_push]
          exact v5.append (.cons r10 .nil)
  exact codeAny_compStart_list (loop _ rfl) (T.self X.A 0 _ _ _ st3 (loop _ rfl))

theorem CompOk.clo {pins : List (Addr × Obj)} {σ : St} {H : Hp} {s : Shared} (S : CompOk X scope own fr frn) (I : Inv X pins σ H s) : closureFor scope X.env = pure (clOf X.env scope.names []) := by
  obtain ⟨p1, p2, p3, p4, p5, p6, p7⟩ := S.parts
  exact clo_of fun y hy e => I.ok.has y.1 (p4 y hy e)

theorem pe_comp (S : CompOk X scope own fr frn) (hc : X.calm = true) (hi : PI X tg iter wi) (hg : ∀ C s0 H0 fp, PG (cxComp X scope (own ++ frn) C s0 H0 fp) tg g) (ht : ∀ C s0 H0 fp, PF (cxComp X scope (own ++ frn) C s0 H0 fp) ifs tt)
    (he : ∀ C s0 H0 fp, PE (cxComp X scope (own ++ frn) C s0 H0 fp) elt te) (hs : ∀ x, foldedSetIterable iter X.env x = pure x := by intro _; rfl) :
    PE X (.ListComp elt [⟨tg, iter, ifs, 0⟩] scope pos) (tComp own.length fr wi g tt te) := by
  intro pins s σ H Q I h
  obtain ⟨p1, p2, p3, p4, p5, p6, p7⟩ := S.parts
  rw [eval_ListComp]
  refine wpAny_comprehension_free (use := none) rfl hs (S.clo I) p1 p3 (thn (hi pins s σ H _ I h) fun v s1 h1 => thn h1 fun itv s2 h2 => ?_)
  obtain ⟨it, fp, tn, J, H2, e, I2, T, st2, f2, hw⟩ := h2
  subst e
  refine comp_block (RR := fun acc C => compPost (model X.prog X.w) X.A X.xe none (EP X pins σ Q) acc C) (Q := fun H ys => ∀ p, H p = none → Q (.ref p) (upd H p (.lst ys))) S hc I2 T st2 f2 hg ht he hw ?_
  intro C D s' H' ys its m hC hD hDC hns hHC hHD pl v z IX q
  have cne : ∀ a, s2.heap.objs.size ≤ a → ∀ x c, X.env.cells.lookup x = some c → c ≠ a := fun a ha x c e z => by
    obtain ⟨v, w⟩ := I2.cell x c e
    exact Nat.lt_irrefl _ (Nat.lt_of_lt_of_le w.lt (by rw [z]; exact ha))
  have pne : ∀ a, s2.heap.objs.size ≤ a → ∀ p ∈ X.pn ++ pins, p.1 ≠ a := fun a ha p hp z => Nat.lt_irrefl _ (Nat.lt_of_lt_of_le (Heap.lt_size (I2.pin p hp).1) (by rw [z]; exact ha))
  have lne : ∀ a, s2.heap.objs.size ≤ a → a ≠ X.env.locals := fun a ha z => Nat.lt_irrefl _ (Nat.lt_of_lt_of_le I2.lt (by rw [← z]; exact ha))
  refine ⟨m, hns, fun h' hs' => ⟨.ref D, upd H' D (.lst ys), ?_, rfl, q D hHD⟩⟩
  have IT : Inv X pins σ (upd H' D (.lst ys)) s' := IX.track pl v z hHD (lne D hD) (Nat.le_trans I2.sz hD) (cne D hD) (pne D hD)
  exact IT.turned (t' := s'.toks) (it := C) (fun b o hb e => (hs'.2 b hb).trans e) (by rw [upd_ne (Ne.symm hDC)]; exact hHC) (lne C hC) (.inr (Nat.le_trans I2.sz hC)) (cne C hC) (pne C hC)

theorem ps_setcomp {i : Nat} {y : Str} {py spos : Pos} (S : CompOk X scope own fr frn) (hc : X.calm = true) (hN : X.N.Nodup) (hyi : X.N[i]? = some y) (hx : X.env.scope.names.lookup y = some .local)
    (hsw : swapsWith (.ListComp elt [⟨tg, iter, ifs, 0⟩] scope pos) (some (.Name y py)) spos.line X.env = pure true)
    (hi : PI X tg iter wi) (hg : ∀ C s0 H0 fp, PG (cxComp X scope (own ++ frn) C s0 H0 fp) tg g) (ht : ∀ C s0 H0 fp, PF (cxComp X scope (own ++ frn) C s0 H0 fp) ifs tt)
    (he : ∀ C s0 H0 fp, PE (cxComp X scope (own ++ frn) C s0 H0 fp) elt te) (hs : ∀ x, foldedSetIterable iter X.env x = pure x := by intro _; rfl) :
    PS X (.Assign [.Name y py] (.ListComp elt [⟨tg, iter, ifs, 0⟩] scope pos) spos) (tAsg (tComp own.length fr wi g tt te) (gName i)) := by
  intro pins s σ H D I h
  obtain ⟨p1, p2, p3, p4, p5, p6, p7⟩ := S.parts
  rw [exec_Assign_Name_used _ _ _ _ hsw]
  refine wpAny_bind (wpAny_standAt (wpAny_bind ?_))
  show wpAny _ X.A (do let _ ← comprehension (.ListComp elt [⟨tg, iter, ifs, 0⟩] scope pos) scope X.env _ (newList []) false (eval iter X.env) (some (assign (.Name y py) X.env))) _ _ s
  refine wpAny_bind (wpAny_mono (wpAny_comprehension_free (use := some (assign (.Name y py) X.env)) (Q := fun _ s' => SP X pins D .next s') rfl hs (S.clo I) p1 p3 (thn (hi pins s σ H _ I h) fun v s1 h1 => thn h1 fun itv s2 h2 => ?_))
    (fun _ s' hq => wpAny_pure (wpAny_pure hq)) fun _ _ e => e)
  obtain ⟨it, fp, tn, J, H2, e, I2, T, st2, f2, hw⟩ := h2
  subst e
  refine comp_block (RR := fun acc C => compPost (model X.prog X.w) X.A X.xe (some (assign (.Name y py) X.env)) (fun _ s' => SP X pins D .next s') acc C) (Q := fun H ys => ∀ p, H p = none → D.nx (σ.set i (some (.ref p))) (upd H p (.lst ys))) S hc I2 T st2 f2 hg ht he hw ?_
  intro C L s' H' ys its m hC hL hLC hns hHC hHL pl v z IX q
  have cne : ∀ a, s2.heap.objs.size ≤ a → ∀ x c, X.env.cells.lookup x = some c → c ≠ a := fun a ha x c e z => by
    obtain ⟨v, w⟩ := I2.cell x c e
    exact Nat.lt_irrefl _ (Nat.lt_of_lt_of_le w.lt (by rw [z]; exact ha))
  have pne : ∀ a, s2.heap.objs.size ≤ a → ∀ p ∈ X.pn ++ pins, p.1 ≠ a := fun a ha p hp z => Nat.lt_irrefl _ (Nat.lt_of_lt_of_le (Heap.lt_size (I2.pin p hp).1) (by rw [z]; exact ha))
  have lne : ∀ a, s2.heap.objs.size ≤ a → a ≠ X.env.locals := fun a ha z => Nat.lt_irrefl _ (Nat.lt_of_lt_of_le I2.lt (by rw [← z]; exact ha))
  have IT : Inv X pins σ (upd H' L (.lst ys)) s' := IX.track pl v z hHL (lne L hL) (Nat.le_trans I2.sz hL) (cne L hL) (pne L hL)
  show wpAny _ _ (assign (.Name y py) X.env (.ref L)) _ _ s'
  refine wpAny_assign_Name (store_ok2 IT hN hyi (.inl hx) (v := .ref L) rfl (fun s'' I'' hch => ?_) (.inr hx))
  obtain ⟨a, sb, ha⟩ := hch
  have hCa : C ≠ a := by
    rcases ha with e | e
    · rw [e]; exact lne C hC
    · exact Ne.symm (cne C hC y a e)
  refine ⟨m, hns.sameBut sb hCa, fun h' hs' => ⟨σ.set i (some (.ref L)), upd H' L (.lst ys), ?_, q L hHL⟩⟩
  exact I''.turned (t' := s''.toks) (it := C) (fun b o hb e => (hs'.2 b hb).trans e) (by rw [upd_ne (Ne.symm hLC)]; exact hHC) (lne C hC) (.inr (Nat.le_trans I2.sz hC)) (cne C hC) (pne C hC)
end

end L2
set_option Elab.async false
set_option linter.all false
set_option maxRecDepth 100000
namespace L2
open PySem PySem.Spec PyProof.Rows

inductive Kd where
  | int | bl | non | str | tup | lst | dct
  deriving DecidableEq
def KdV (K : PySem.W.Frag) (H : Hp) : V → Kd → Prop
  | .int _, k => k = .int
  | .bl _, k => k = .bl
  | .non, k => k = .non
  | .str _, k => k = .str
  | .ref p, k => (k = .lst ∧ ∃ xs, SqL K H p xs) ∨ (k = .tup ∧ ∃ xs, SqT K H p xs) ∨ (k = .dct ∧ ∃ kvs, H p = some (.dK kvs))
  | _, _ => False
section
variable {X : Cx}
theorem dK_cls {pins : List (Addr × Obj)} {σ : St} {H : Hp} {s : Shared} {p : Addr} {kvs : List (Key × V)} (I : Inv X pins σ H s) (h : H p = some (.dK kvs)) : ∃ o, s.heap.get? p = some o ∧ o.cls = .type "dict" := by
  obtain ⟨_, _, vs, _, o, es, ep, e, ex, _⟩ := I.hok p _ h
  exact ⟨o, e, ex.1⟩
theorem call_isi_int : CallR X (.builtin "isinstance") (fun xs H Q => ∃ x k, xs = [x, .ty "int"] ∧ KdV X.K H x k ∧ Q (.bl (decide (k = .int ∨ k = .bl))) H) := by
  intro pins s σ H xs us Q I r h
  obtain ⟨x, k, rfl, hk, q⟩ := h
  obtain ⟨u, t, rfl, rx, rt⟩ := vals2 r
  cases rt
  cases x with
  | int i => cases hk; obtain ⟨t, rfl⟩ := rx; exact IsiPair.int_int ⟨.bl true, H, I, rfl, q⟩
  | bl b => cases hk; cases rx; exact IsiPair.bool_int ⟨.bl true, H, I, rfl, q⟩
  | non => cases hk; cases rx; exact IsiPair.NoneType_int ⟨.bl false, H, I.tok _, rfl, q⟩
  | str y => cases hk; obtain ⟨t, rfl⟩ := rx; exact IsiPair.str_int ⟨.bl false, H, I.tok _, rfl, q⟩
  | ref p =>
    cases rx
    rcases hk with ⟨rfl, xs, hx⟩ | ⟨rfl, xs, hx⟩ | ⟨rfl, kvs, hx⟩
    · obtain ⟨its, r', pl, hz⟩ := I.list hx; exact IsiPair.isList_int pl.isList (fun _ _ e => e) ⟨.bl false, H, I.tok _, rfl, q⟩
    · obtain ⟨its, r', pl, hz⟩ := I.tuple hx; exact IsiPair.isTuple_int pl (fun _ _ e => e) ⟨.bl false, H, I.tok _, rfl, q⟩
    · obtain ⟨o, e, c⟩ := dK_cls I hx; exact IsiPair.dict_int e c ⟨.bl false, H, I.tok _, rfl, q⟩
  | _ => exact hk.elim
theorem call_isi_bool : CallR X (.builtin "isinstance") (fun xs H Q => ∃ x k, xs = [x, .ty "bool"] ∧ KdV X.K H x k ∧ Q (.bl (decide (k = .bl))) H) := by
  intro pins s σ H xs us Q I r h
  obtain ⟨x, k, rfl, hk, q⟩ := h
  obtain ⟨u, t, rfl, rx, rt⟩ := vals2 r
  cases rt
  cases x with
  | int i => cases hk; obtain ⟨t, rfl⟩ := rx; exact IsiPair.int_bool ⟨.bl false, H, I.tok _, rfl, q⟩
  | bl b => cases hk; cases rx; exact IsiPair.bool_bool ⟨.bl true, H, I, rfl, q⟩
  | non => cases hk; cases rx; exact IsiPair.NoneType_bool ⟨.bl false, H, I.tok _, rfl, q⟩
  | str y => cases hk; obtain ⟨t, rfl⟩ := rx; exact IsiPair.str_bool ⟨.bl false, H, I.tok _, rfl, q⟩
  | ref p =>
    cases rx
    rcases hk with ⟨rfl, xs, hx⟩ | ⟨rfl, xs, hx⟩ | ⟨rfl, kvs, hx⟩
    · obtain ⟨its, r', pl, hz⟩ := I.list hx; exact IsiPair.isList_bool pl.isList (fun _ _ e => e) ⟨.bl false, H, I.tok _, rfl, q⟩
    · obtain ⟨its, r', pl, hz⟩ := I.tuple hx; exact IsiPair.isTuple_bool pl (fun _ _ e => e) ⟨.bl false, H, I.tok _, rfl, q⟩
    · obtain ⟨o, e, c⟩ := dK_cls I hx; exact IsiPair.dict_bool e c ⟨.bl false, H, I.tok _, rfl, q⟩
  | _ => exact hk.elim
theorem call_isi_tuple : CallR X (.builtin "isinstance") (fun xs H Q => ∃ x k, xs = [x, .ty "tuple"] ∧ KdV X.K H x k ∧ Q (.bl (decide (k = .tup))) H) := by
  intro pins s σ H xs us Q I r h
  obtain ⟨x, k, rfl, hk, q⟩ := h
  obtain ⟨u, t, rfl, rx, rt⟩ := vals2 r
  cases rt
  cases x with
  | int i => cases hk; obtain ⟨t, rfl⟩ := rx; exact IsiPair.int_tuple ⟨.bl false, H, I.tok _, rfl, q⟩
  | bl b => cases hk; cases rx; exact IsiPair.bool_tuple ⟨.bl false, H, I.tok _, rfl, q⟩
  | non => cases hk; cases rx; exact IsiPair.NoneType_tuple ⟨.bl false, H, I.tok _, rfl, q⟩
  | str y => cases hk; obtain ⟨t, rfl⟩ := rx; exact IsiPair.str_tuple ⟨.bl false, H, I.tok _, rfl, q⟩
  | ref p =>
    cases rx
    rcases hk with ⟨rfl, xs, hx⟩ | ⟨rfl, xs, hx⟩ | ⟨rfl, kvs, hx⟩
    · obtain ⟨its, r', pl, hz⟩ := I.list hx; exact IsiPair.isList_tuple pl.isList (fun _ _ e => e) ⟨.bl false, H, I.tok _, rfl, q⟩
    · obtain ⟨its, r', pl, hz⟩ := I.tuple hx; exact IsiPair.isTuple_tuple pl (fun _ _ e => e) ⟨.bl true, H, I, rfl, q⟩
    · obtain ⟨o, e, c⟩ := dK_cls I hx; exact IsiPair.dict_tuple e c ⟨.bl false, H, I.tok _, rfl, q⟩
  | _ => exact hk.elim
theorem all_range (bs : List Bool) (tr : Nat → Bool) (h : ∀ i b, bs[i]? = some b → tr i = b) : (List.range bs.length).all tr = bs.all id := by
  rw [Bool.eq_iff_iff, List.all_eq_true, List.all_eq_true]
  constructor
  · intro q b hb
    obtain ⟨i, hi⟩ := List.getElem?_of_mem hb
    have := q i (List.mem_range.mpr (List.getElem?_eq_some_iff.mp hi).1)
    rw [h i b hi] at this
    exact this
  · intro q i hi
    have hi' := List.mem_range.mp hi
    have e : bs[i]? = some bs[i] := List.getElem?_eq_getElem hi'
    rw [h i _ e]
    exact q _ (List.getElem_mem hi')
theorem call_all (hc : X.calm = true) : CallR X (.builtin "all") (fun xs H Q => ∃ (p : Addr) (bs : List Bool), xs = [.ref p] ∧ SqL X.K H p (bs.map V.bl) ∧ Q (.bl (bs.all id)) H) := by
  intro pins s σ H xs us Q I r h
  obtain ⟨p, bs, rfl, hx, q⟩ := h
  obtain ⟨u, rfl, rx⟩ := vals1 r
  cases rx
  obtain ⟨its, rv, pl, hz⟩ := I.list hx
  have hl := rv.length
  rw [List.length_map] at hl
  have hlt : p < s.heap.objs.size := by obtain ⟨o, n, e, _⟩ := pl; exact Heap.lt_size e
  refine call_all_walk (wpAny_pyIter_list pl.isList ?_)
  refine ⟨s.heap.objs.size, _, _, _, _, _, fun i => (bs[i]?).getD false, rfl, Walks.list (A := X.A.in1) (I.ok.hd hc) s.heap.objs.size p (Nat.ne_of_lt hlt) its.toArray, ⟨⟨_, Heap.get?_push_size _ rfl, rfl, rfl⟩, pl.isList.push _⟩, ?_, fun h' tk hk => ?_⟩
  · intro i v s' Q' E' hP hQ'
    have hP' : its[i]? = some v := by simpa using hP
    have hi : i < bs.length := by rw [hl]; exact (List.getElem?_eq_some_iff.mp hP').1
    obtain ⟨w, hw, rw'⟩ := rv.get (i := i) (x := .bl bs[i]) (by rw [List.getElem?_map, List.getElem?_eq_getElem hi]; rfl)
    rw [hw] at hP'
    cases hP'
    cases rw'
    have e : (bs[i]?).getD false = bs[i] := by rw [List.getElem?_eq_getElem hi]; rfl
    rw [← e]
    exact wpAny_truthy_bool hQ'
  · have e : (List.range its.toArray.size).all (fun i => (bs[i]?).getD false) = bs.all id := by
      rw [List.size_toArray, ← hl]
      exact all_range bs _ fun i b hb => by rw [hb]; rfl
    rw [e]
    refine ⟨.bl _, H, I.kept (h' := h') fun b o e => hk b o ?_ (Heap.get?_push_of_some _ e), rfl, q⟩
    intro z
    have z' : b = s.heap.objs.size := by simpa using z
    exact Nat.lt_irrefl _ (z' ▸ Heap.lt_size e)
def sumTo (ns : List Int) : Int := ns.foldr (· + ·) 0
theorem preSum_take (ns : List Int) (val : Nat → Int) (h : ∀ (i : Nat) (v : Int), ns[i]? = some v → val i = v) : ∀ j, j ≤ ns.length → preSum val j = sumTo (ns.take j)
  | 0, _ => rfl
  | j + 1, hj => by
    have ih := preSum_take ns val h j (by omega)
    have e : ns[j]? = some ns[j] := List.getElem?_eq_getElem (by omega)
    show preSum val j + val j = _
    rw [ih, h j _ e, List.take_succ, e]
    unfold sumTo
    rw [List.foldr_append]
    simp only [Option.toList_some, List.foldr_cons, List.foldr_nil, Int.add_zero]
    generalize ns[j] = v
    induction (List.take j ns) with
    | nil => simp
    | cons a l ih2 => simp only [List.foldr_cons]; omega
theorem call_sum (hc : X.calm = true) : CallR X (.builtin "sum") (fun xs H Q => ∃ (p : Addr) (ns : List Int), xs = [.ref p] ∧ SqL X.K H p (ns.map V.int) ∧ (∀ n ∈ ns, 0 ≤ n ∧ n < 1000000) ∧ ns.length ≤ 1000000 ∧ Q (.int (sumTo ns)) H) := by
  intro pins s σ H xs us Q I r h
  obtain ⟨p, ns, rfl, hx, hb, hlen, q⟩ := h
  obtain ⟨u, rfl, rx⟩ := vals1 r
  cases rx
  obtain ⟨its, rv, pl, hz⟩ := I.list hx
  have hl := rv.length
  rw [List.length_map] at hl
  have hlt : p < s.heap.objs.size := by obtain ⟨o, n, e, _⟩ := pl; exact Heap.lt_size e
  have hval : ∀ (i : Nat) (v : Int), ns[i]? = some v → (ns[i]?).getD 0 = v := fun i v e => by rw [e]; rfl
  have bnd : ∀ (ms : List Int), (∀ n ∈ ms, 0 ≤ n ∧ n < 1000000) → 0 ≤ sumTo ms ∧ sumTo ms ≤ ms.length * 1000000 := fun ms => by
    induction ms with
    | nil => intro _; exact ⟨Int.le_refl _, Int.le_refl _⟩
    | cons a l ih =>
      intro hh
      have h1 := hh a List.mem_cons_self
      have h2 := ih fun n hn => hh n (List.mem_cons_of_mem _ hn)
      have e : sumTo (a :: l) = a + sumTo l := rfl
      rw [e, List.length_cons]
      rw [Int.natCast_add]
      omega
  refine call_sum_walk (wpAny_pyIter_list pl.isList ?_)
  refine ⟨s.heap.objs.size, _, _, _, _, _, fun i => (ns[i]?).getD 0, rfl, Walks.list (A := X.A.in1) (I.ok.hd hc) s.heap.objs.size p (Nat.ne_of_lt hlt) its.toArray, ⟨⟨_, Heap.get?_push_size _ rfl, rfl, rfl⟩, pl.isList.push _⟩, ?_, ?_, ?_, fun h' tk t' hk => ?_⟩
  · intro b hb'
    rw [Heap.size_push]
    rcases List.mem_cons.mp hb' with e | e
    · rw [e]; exact Nat.lt_succ_self _
    · have e' : b = p := by simpa using e
      rw [e']; exact Nat.lt_succ_of_lt hlt
  · intro i v hP
    have hP' : its[i]? = some v := by simpa using hP
    have hi : i < ns.length := by rw [hl]; exact (List.getElem?_eq_some_iff.mp hP').1
    obtain ⟨w, hw, rw'⟩ := rv.get (i := i) (x := .int ns[i]) (by rw [List.getElem?_map, List.getElem?_eq_getElem hi]; rfl)
    rw [hw] at hP'
    cases hP'
    obtain ⟨t, rfl⟩ := rw'
    exact ⟨t, by show Value.int ns[i] t = Value.int ((ns[i]?).getD 0) t; rw [List.getElem?_eq_getElem hi]; rfl⟩
  · intro j hj
    have hj' : j < ns.length := by rw [hl]; simpa using hj
    have e : ns[j]? = some ns[j] := List.getElem?_eq_getElem hj'
    have h1 := hb _ (List.getElem_mem hj')
    have h2 := bnd (ns.take (j + 1)) fun n hn => hb n (List.mem_of_mem_take hn)
    rw [preSum_take ns _ hval (j + 1) (by omega)]
    have h3 : (ns.take (j + 1)).length ≤ 1000000 := by rw [List.length_take]; omega
    unfold InLong
    have e5 : (fun i : Nat => (ns[i]?).getD 0) j = ns[j] := by show (ns[j]?).getD 0 = _; rw [e]; rfl
    rw [e5]
    have h4 : ((ns.take (j + 1)).length : Int) * 1000000 ≤ 1000000 * 1000000 := by omega
    omega
  · have e : preSum (fun i => (ns[i]?).getD 0) its.toArray.size = sumTo ns := by
      rw [List.size_toArray, ← hl, preSum_take ns _ hval ns.length (Nat.le_refl _), List.take_length]
    rw [e]
    refine ⟨.int _, H, I.kept (h' := h') fun b o e => hk b o ?_ (Heap.get?_push_of_some _ e), ⟨_, rfl⟩, q⟩
    intro z
    have z' : b = s.heap.objs.size := by simpa using z
    exact Nat.lt_irrefl _ (z' ▸ Heap.lt_size e)
end
end L2
set_option Elab.async false
set_option linter.all false
set_option maxRecDepth 100000
namespace L2
open PySem PySem.Spec PyProof.Rows

mutual
def Den (K : PySem.W.Frag) (H : Hp) : PyData → V → Prop
  | .none, v => v = .non
  | .bool b, v => v = .bl b
  | .int i, v => v = .int i
  | .str x, v => v = .str x
  | .list ds, v => ∃ a xs, v = .ref a ∧ SqL K H a xs ∧ DenAll K H ds xs
  | .tuple ds, v => ∃ a xs, v = .ref a ∧ SqT K H a xs ∧ DenAll K H ds xs
  | .dict kvs, v => kvs = [] ∧ ∃ a, v = .ref a ∧ H a = some (.dK [])
def DenAll (K : PySem.W.Frag) (H : Hp) : List PyData → List V → Prop
  | [], xs => xs = []
  | d :: ds, xs => ∃ x r, xs = x :: r ∧ Den K H d x ∧ DenAll K H ds r
end
theorem Same.rd {H H' : Hp} {a : Addr} {u : HO} (e : Same H H') (h : Rd H a u) : Rd H' a u := by
  rcases h with h | ⟨o, h⟩
  · exact .inl (e a u h)
  · exact .inr ⟨o, e a _ h⟩
theorem Same.seqL {K : PySem.W.Frag} {H H' : Hp} {a : Addr} {xs : List V} (e : Same H H') (h : SqL K H a xs) : SqL K H' a xs := by
  rcases h with h | h
  · exact .inl (e.rd h)
  · exact .inr h
theorem Same.seqT {K : PySem.W.Frag} {H H' : Hp} {a : Addr} {xs : List V} (e : Same H H') (h : SqT K H a xs) : SqT K H' a xs := by
  rcases h with h | h
  · exact .inl (e.rd h)
  · exact .inr h
theorem Same.new {H : Hp} {p : Addr} {o : HO} (h : H p = none) : Same H (upd H p o) := fun b u e => by rw [upd_ne (ne_of_none e h)]; exact e
mutual
theorem Same.den {K : PySem.W.Frag} {H H' : Hp} (e : Same H H') : ∀ (d : PyData) (v : V), Den K H d v → Den K H' d v
  | .none, v, h => by unfold Den at h ⊢; exact h
  | .bool b, v, h => by unfold Den at h ⊢; exact h
  | .int i, v, h => by unfold Den at h ⊢; exact h
  | .str x, v, h => by unfold Den at h ⊢; exact h
  | .list ds, v, h => by unfold Den at h ⊢; obtain ⟨a, xs, h1, h2, h3⟩ := h; exact ⟨a, xs, h1, e.seqL h2, Same.denAll e ds xs h3⟩
  | .tuple ds, v, h => by unfold Den at h ⊢; obtain ⟨a, xs, h1, h2, h3⟩ := h; exact ⟨a, xs, h1, e.seqT h2, Same.denAll e ds xs h3⟩
  | .dict kvs, v, h => by unfold Den at h ⊢; obtain ⟨h1, a, h2, h3⟩ := h; exact ⟨h1, a, h2, e a _ h3⟩
theorem Same.denAll {K : PySem.W.Frag} {H H' : Hp} (e : Same H H') : ∀ (ds : List PyData) (xs : List V), DenAll K H ds xs → DenAll K H' ds xs
  | [], xs, h => by unfold DenAll at h ⊢; exact h
  | d :: ds, xs, h => by unfold DenAll at h ⊢; obtain ⟨x, r, h1, h2, h3⟩ := h; exact ⟨x, r, h1, Same.den e d x h2, Same.denAll e ds r h3⟩
end
section
variable {K : PySem.W.Frag} {H : Hp}
theorem den_int {i : Int} {v : V} : Den K H (.int i) v ↔ v = .int i := by unfold Den; exact Iff.rfl
theorem den_bool {b : Bool} {v : V} : Den K H (.bool b) v ↔ v = .bl b := by unfold Den; exact Iff.rfl
theorem den_none {v : V} : Den K H .none v ↔ v = .non := by unfold Den; exact Iff.rfl
theorem den_str {x : Str} {v : V} : Den K H (.str x) v ↔ v = .str x := by unfold Den; exact Iff.rfl
theorem den_list {ds : List PyData} {v : V} : Den K H (.list ds) v ↔ ∃ a xs, v = .ref a ∧ SqL K H a xs ∧ DenAll K H ds xs := by
  constructor
  · intro h; unfold Den at h; exact h
  · intro h; unfold Den; exact h
theorem den_tuple {ds : List PyData} {v : V} : Den K H (.tuple ds) v ↔ ∃ a xs, v = .ref a ∧ SqT K H a xs ∧ DenAll K H ds xs := by
  constructor
  · intro h; unfold Den at h; exact h
  · intro h; unfold Den; exact h
theorem den_dict {kvs : List (PyData × PyData)} {v : V} : Den K H (.dict kvs) v ↔ kvs = [] ∧ ∃ a, v = .ref a ∧ H a = some (.dK []) := by
  constructor
  · intro h; unfold Den at h; exact h
  · intro h; unfold Den; exact h
theorem denAll_nil {xs : List V} : DenAll K H [] xs ↔ xs = [] := by unfold DenAll; exact Iff.rfl
theorem denAll_cons {d : PyData} {ds : List PyData} {xs : List V} : DenAll K H (d :: ds) xs ↔ ∃ x r, xs = x :: r ∧ Den K H d x ∧ DenAll K H ds r := by
  constructor
  · intro h; unfold DenAll at h; exact h
  · intro h; unfold DenAll; exact h
theorem denAll_length : ∀ {ds : List PyData} {xs : List V}, DenAll K H ds xs → xs.length = ds.length
  | [], xs, h => by rw [denAll_nil.mp h]; rfl
  | d :: ds, xs, h => by
    obtain ⟨x, r, rfl, _, h3⟩ := denAll_cons.mp h
    rw [List.length_cons, List.length_cons, denAll_length h3]
theorem denAll_get : ∀ {ds : List PyData} {xs : List V} {i : Nat} {d : PyData}, DenAll K H ds xs → ds[i]? = some d → ∃ x, xs[i]? = some x ∧ Den K H d x
  | [], _, _, _, _, e => by simp at e
  | d :: ds, xs, 0, d', h, e => by
    obtain ⟨x, r, rfl, h2, _⟩ := denAll_cons.mp h
    simp at e; subst e
    exact ⟨x, rfl, h2⟩
  | d :: ds, xs, i + 1, d', h, e => by
    obtain ⟨x, r, rfl, _, h3⟩ := denAll_cons.mp h
    obtain ⟨y, h4, h5⟩ := denAll_get (i := i) (d := d') h3 (by simpa using e)
    exact ⟨y, by simpa using h4, h5⟩
theorem denAll_at {ds : List PyData} {xs : List V} {i : Nat} {x : V} (h : DenAll K H ds xs) (e : xs[i]? = some x) : ∃ d, ds[i]? = some d ∧ Den K H d x := by
  have hl := denAll_length h
  have hi : i < ds.length := by rw [← hl]; exact (List.getElem?_eq_some_iff.mp e).1
  obtain ⟨y, h1, h2⟩ := denAll_get h (List.getElem?_eq_getElem hi)
  rw [e] at h1; cases h1
  exact ⟨_, List.getElem?_eq_getElem hi, h2⟩
theorem denAll_append : ∀ {ds es : List PyData} {xs ys : List V}, DenAll K H ds xs → DenAll K H es ys → DenAll K H (ds ++ es) (xs ++ ys)
  | [], es, xs, ys, h, h' => by rw [denAll_nil.mp h]; exact h'
  | d :: ds, es, xs, ys, h, h' => by
    obtain ⟨x, r, rfl, h2, h3⟩ := denAll_cons.mp h
    exact denAll_cons.mpr ⟨x, r ++ ys, rfl, h2, denAll_append h3 h'⟩
theorem denAll_take : ∀ {ds : List PyData} {xs : List V} (n : Nat), DenAll K H ds xs → DenAll K H (ds.take n) (xs.take n)
  | _, _, 0, _ => by rw [List.take_zero, List.take_zero]; exact denAll_nil.mpr rfl
  | [], xs, n + 1, h => by rw [denAll_nil.mp h]; exact denAll_nil.mpr rfl
  | d :: ds, xs, n + 1, h => by
    obtain ⟨x, r, rfl, h2, h3⟩ := denAll_cons.mp h
    exact denAll_cons.mpr ⟨x, r.take n, rfl, h2, denAll_take n h3⟩
theorem denAll_drop : ∀ {ds : List PyData} {xs : List V} (n : Nat), DenAll K H ds xs → DenAll K H (ds.drop n) (xs.drop n)
  | _, _, 0, h => h
  | [], xs, n + 1, h => by rw [denAll_nil.mp h]; exact denAll_nil.mpr rfl
  | d :: ds, xs, n + 1, h => by
    obtain ⟨x, r, rfl, h2, h3⟩ := denAll_cons.mp h
    exact denAll_drop n h3
theorem denAll_ints : ∀ {ns : List Int} {xs : List V}, DenAll K H (ns.map PyData.int) xs ↔ xs = ns.map V.int
  | [], xs => denAll_nil
  | n :: ns, xs => by
    rw [List.map_cons, denAll_cons]
    constructor
    · rintro ⟨x, r, rfl, h2, h3⟩
      rw [den_int.mp h2, denAll_ints.mp h3]
      rfl
    · intro e
      exact ⟨_, _, e, den_int.mpr rfl, denAll_ints.mpr rfl⟩
theorem den_tints {ns : List Int} {v : V} : Den K H (.tuple (ns.map .int)) v ↔ ∃ a, v = .ref a ∧ SqT K H a (ns.map V.int) := by
  rw [den_tuple]
  constructor
  · rintro ⟨a, xs, rfl, h1, h2⟩
    rw [denAll_ints.mp h2] at h1
    exact ⟨a, rfl, h1⟩
  · rintro ⟨a, rfl, h⟩
    exact ⟨a, _, rfl, h, denAll_ints.mpr rfl⟩
theorem den_lints {ns : List Int} {v : V} : Den K H (.list (ns.map .int)) v ↔ ∃ a, v = .ref a ∧ SqL K H a (ns.map V.int) := by
  rw [den_list]
  constructor
  · rintro ⟨a, xs, rfl, h1, h2⟩
    rw [denAll_ints.mp h2] at h1
    exact ⟨a, rfl, h1⟩
  · rintro ⟨a, rfl, h⟩
    exact ⟨a, _, rfl, h, denAll_ints.mpr rfl⟩
def kdOf : PyData → Kd
  | .none => .non | .bool _ => .bl | .int _ => .int | .str _ => .str | .list _ => .lst | .tuple _ => .tup | .dict _ => .dct
theorem Den.kd {d : PyData} {v : V} (h : Den K H d v) : KdV K H v (kdOf d) := by
  cases d with
  | none => rw [den_none.mp h]; rfl
  | bool b => rw [den_bool.mp h]; rfl
  | int i => rw [den_int.mp h]; rfl
  | str x => rw [den_str.mp h]; rfl
  | list ds => obtain ⟨a, xs, rfl, h1, _⟩ := den_list.mp h; exact .inl ⟨rfl, xs, h1⟩
  | tuple ds => obtain ⟨a, xs, rfl, h1, _⟩ := den_tuple.mp h; exact .inr (.inl ⟨rfl, xs, h1⟩)
  | dict kvs => obtain ⟨_, a, rfl, h1⟩ := den_dict.mp h; exact .inr (.inr ⟨rfl, [], h1⟩)
end

section
variable {X : Cx} {pins : List (Addr × Obj)} {σ : St} {H : Hp} {s : Shared}
mutual
def noDict : PyData → Bool
  | .dict _ => false
  | .list ds => noDicts ds
  | .tuple ds => noDicts ds
  | _ => true
def noDicts : List PyData → Bool
  | [] => true
  | d :: ds => noDict d && noDicts ds
end
mutual
theorem Den.reads (I : Inv X pins σ H s) : ∀ (d : PyData) (v : V) (u : Value), noDict d = true → Den X.K H d v → RelV v u → ∃ as, Reads s.heap u d as
  | .none, v, u, _, h, r => by rw [den_none.mp h] at r; cases r; exact ⟨_, .none⟩
  | .bool b, v, u, _, h, r => by rw [den_bool.mp h] at r; cases r; exact ⟨_, .bool b⟩
  | .int i, v, u, _, h, r => by rw [den_int.mp h] at r; obtain ⟨t, rfl⟩ := r; exact ⟨_, .int i t⟩
  | .str x, v, u, _, h, r => by rw [den_str.mp h] at r; obtain ⟨t, rfl⟩ := r; exact ⟨_, .str x t⟩
  | .list ds, v, u, hn, h, r => by
    obtain ⟨a, xs, rfl, h1, h2⟩ := den_list.mp h
    cases r
    obtain ⟨its, rv, ⟨o, n, e, c, _, d⟩, _⟩ := I.list h1
    obtain ⟨as, ra⟩ := DenAll.reads I ds xs its (by unfold noDict at hn; exact hn) h2 rv
    exact ⟨_, .list e c d (by simpa using ra)⟩
  | .tuple ds, v, u, hn, h, r => by
    obtain ⟨a, xs, rfl, h1, h2⟩ := den_tuple.mp h
    cases r
    obtain ⟨its, rv, ⟨o, e, c, n, d⟩, _⟩ := I.tuple h1
    obtain ⟨as, ra⟩ := DenAll.reads I ds xs its (by unfold noDict at hn; exact hn) h2 rv
    exact ⟨_, .tuple e c d (by simpa using ra)⟩
  | .dict kvs, v, u, hn, _, _ => by unfold noDict at hn; cases hn
theorem DenAll.reads (I : Inv X pins σ H s) : ∀ (ds : List PyData) (xs : List V) (us : List Value), noDicts ds = true → DenAll X.K H ds xs → Vals xs us → ∃ as, ReadsAll s.heap us ds as
  | [], xs, us, _, h, r => by rw [denAll_nil.mp h] at r; cases r; exact ⟨_, .nil⟩
  | d :: ds, xs, us, hn, h, r => by
    obtain ⟨x, rr, rfl, h2, h3⟩ := denAll_cons.mp h
    unfold noDicts at hn
    rw [Bool.and_eq_true] at hn
    cases r with
    | cons r1 r2 =>
      obtain ⟨as, ra⟩ := Den.reads I d x _ hn.1 h2 r1
      obtain ⟨bs, rb⟩ := DenAll.reads I ds rr _ hn.2 h3 r2
      exact ⟨_, .cons ra rb⟩
end
theorem op_eqD (hu : X.A.units + 64 < cLine) : OpR X (compareOp .Eq) (fun x y H Q => ∃ d e, Den X.K H d x ∧ Den X.K H e y ∧ noDict d = true ∧ noDict e = true ∧ SeqAt.shaped d = true ∧ SeqAt.shaped e = true ∧ Q (.bl (PyData.eqv d e)) H) := by
  intro pins s σ H x y v u Q I rx ry h
  obtain ⟨d, e, hd, he, n1, n2, s1, s2, q⟩ := h
  obtain ⟨as, ra⟩ := Den.reads I d x v n1 hd rx
  obtain ⟨bs, rb⟩ := Den.reads I e y u n2 he ry
  exact eq_dataH ra rb s1 s2 hu ⟨.bl _, H, I, rfl, q⟩
theorem op_neD (hu : X.A.units + 64 < cLine) : OpR X (compareOp .NotEq) (fun x y H Q => ∃ d e, Den X.K H d x ∧ Den X.K H e y ∧ noDict d = true ∧ noDict e = true ∧ SeqAt.shaped d = true ∧ SeqAt.shaped e = true ∧ Q (.bl (!PyData.eqv d e)) H) := by
  intro pins s σ H x y v u Q I rx ry h
  obtain ⟨d, e, hd, he, n1, n2, s1, s2, q⟩ := h
  obtain ⟨as, ra⟩ := Den.reads I d x v n1 hd rx
  obtain ⟨bs, rb⟩ := Den.reads I e y u n2 he ry
  exact ne_dataH ra rb s1 s2 hu ⟨.bl _, H, I, rfl, q⟩
end
end L2
set_option Elab.async false
set_option linter.all false
set_option maxRecDepth 100000
namespace L2
open PySem PySem.Spec PyProof.Rows

section
variable {prog : Program} {w : World} {A : Around} {E : Value → Shared → Prop} {s : Shared}
theorem collect_by {x : Value} {Q : List Value → Shared → Prop}
    (h : ∀ R : Result → Shared → Prop, (∀ (s' : Shared) (acc : Array Value) (c : Nat), s'.heap.get? s.heap.objs.size = some { cls := .type "list", data := .seq acc c } → Q acc.toList s' → R (.ok (.ret (.ref s.heap.objs.size))) s') →
      wpAny (model prog w) A.in1 (Builtin.List.listExtendWith (.ref s.heap.objs.size) x (.ref s.heap.objs.size))
        (fun fin s' => match fin with | .done f => R (.ok f) s' | .again c' => c'.quiet = true ∧ codeAny (model prog w) A c' R s') (fun e s' => R (.error e) s') { s with heap := s.heap.push { cls := .type "list", data := .seq ([] : List Value).toArray } }) :
    wpAny (model prog w) A (collect x) Q E s := by
  unfold collect
  refine wpAny_bind (wpAny_runValue (codeAny_builtin PySem.F.entry_proto_collect ?_))
  rw [Around.under_plainId PySem.F.plain_proto_collect _]
  show wpAny _ A.in1 (newList [] >>= fun l => again (.builtin "list.__iadd__" ⟨[l, x], []⟩)) _ _ s
  refine wpAny_bind (wpAny_newObj_type ?_)
  refine wpAny_pure ⟨plainId_quiet PySem.F.plain_list_iadd _, codeAny_builtin PySem.F.entry_list_iadd ?_⟩
  rw [Around.under_plainId PySem.F.plain_list_iadd _]
  show wpAny _ A.in1 (Builtin.List.listExtendWith (.ref s.heap.objs.size) x (.ref s.heap.objs.size)) _ _ _
  have fin' : ∀ (s' : Shared) (acc : Array Value) (c : Nat), s'.heap.get? s.heap.objs.size = some { cls := .type "list", data := .seq acc c } → Q acc.toList s' → wpAny (model prog w) A (match Value.ref s.heap.objs.size with
      | Value.ref a => do
        match (← load a).data with
          | Data.seq xs _ => pure xs.toList
          | _ => unsupported "internal:collect"
      | _ => unsupported "internal:collect") Q E s' := by
    intro s' acc c e q
    show wpAny _ A (load s.heap.objs.size >>= _) _ _ _
    exact wpAny_bind (wpAny_load e (wpAny_pure q))
  refine wpAny_mono (h (fun r s' => r = .ok (.ret (.ref s.heap.objs.size)) ∧ ∃ acc c, s'.heap.get? s.heap.objs.size = some { cls := .type "list", data := .seq acc c } ∧ Q acc.toList s') (fun s' acc c e q => ⟨rfl, acc, c, e, q⟩)) (fun fin s' h => ?_) (fun e s' h => ?_)
  · cases fin with
    | done f =>
      obtain ⟨e, acc, c, e2, q⟩ := h
      cases e
      exact fin' s' acc c e2 q
    | again c' => exact ⟨h.1, codeAny_mono h.2 fun r s'' hr => by obtain ⟨rfl, acc, c, e2, q⟩ := hr; exact fin' s'' acc c e2 q⟩
  · exact absurd h.1 (by simp)

theorem collect_range {r : Addr} {a b : Int} {t u v : Tok} {n : Nat} {Q : List Value → Shared → Prop} (hh : A.handled = none) (hr : IsRange s.heap r a b 1 t u v) (hsmall : Builtin.Range.small a b 1 = true)
    (hn : Builtin.Range.rangeSize a b 1 = n) (hlen : n ≤ 2 ^ 24)
    (h : ∀ h' tk vs, (∀ b o, s.heap.get? b = some o → h'.get? b = some o) → IntsAre vs ((List.range n).map fun (i : Nat) => a + (i : Int)) → Q vs { s with heap := h', toks := tk }) : wpAny (model prog w) A (collect (.ref r)) Q E s := by
  refine collect_by fun R hR => ?_
  have hr' : IsRange (s.heap.push { cls := .type "list", data := .seq ([] : List Value).toArray }) r a b 1 t u v := Heap.get?_push_of_some _ hr
  refine wpAny_extend_range (s := { s with heap := s.heap.push { cls := .type "list", data := .seq ([] : List Value).toArray } }) hh hr' hsmall hn hlen s.heap.objs.size (.ref s.heap.objs.size) 0 (Heap.get?_push_size _ rfl) fun h' tk acc' c' kp e it => ?_
  refine hR { s with heap := h', toks := tk } acc' c' e (h h' tk acc'.toList (fun b o q => kp b o (Nat.ne_of_lt (Heap.lt_size q)) (Heap.get?_push_of_some _ q)) ?_)
  obtain ⟨hs, hi⟩ := it
  -- the items one by one
  have key : ∀ (k : Nat) (l : List Value) (m : Nat), l.length = k → (∀ (j : Nat) (v : Value), l[j]? = some v → ∃ t, v = Value.int (a + ((m + j : Nat) : Int)) t) → IntsAre l ((List.range' m k).map fun (i : Nat) => a + (i : Int)) := by
    intro k
    induction k with
    | zero => intro l m hl _; rw [List.length_eq_zero_iff.mp hl]; exact .nil
    | succ k ih =>
      intro l m hl hv
      cases l with
      | nil => simp at hl
      | cons v l =>
        obtain ⟨t, e⟩ := hv 0 v rfl
        rw [List.range'_succ, List.map_cons, e]
        exact .cons _ t (ih l (m + 1) (by simpa using hl) fun j v' hj => by
          obtain ⟨t', e'⟩ := hv (j + 1) v' (by simpa using hj)
          exact ⟨t', by rw [e', show m + (j + 1) = m + 1 + j by omega]⟩)
  have := key n acc'.toList 0 (by rw [Array.length_toList, hs]) fun j v hj => by
    obtain ⟨t, e⟩ := hi j v (by simpa using hj)
    exact ⟨t, by rw [e]; first | (congr 1; done) | (congr 1; omega)⟩
  rwa [← List.range_eq_range'] at this

theorem sorted_of {x : Value} {ns : List Int} {Q : Value → Shared → Prop} (h64 : ns.length < 64)
    (hc : ∀ Q' : List Value → Shared → Prop, (∀ h' tk vs, (∀ b o, s.heap.get? b = some o → h'.get? b = some o) → IntsAre vs ns → Q' vs { s with heap := h', toks := tk }) → wpAny (model prog w) A.in1 (collect x) Q' E s)
    (h : ∀ (h1 h' : Heap) tk out ns', (∀ b o, s.heap.get? b = some o → h1.get? b = some o) → (∀ b o, h1.get? b = some o → h'.get? b = some o) → h'.PlainList h1.objs.size out → IntsAre out.toList ns' → ns'.Perm ns → ns'.Pairwise (· ≤ ·) → Q (.ref h1.objs.size) { s with heap := h', toks := tk }) :
    wpAny (model prog w) A (call (.builtin "sorted") [x]) Q E s := by
  refine Calls.call_function_entry kind_sorted plain_sorted entry_sorted (args_sorted1 _) ?_
  unfold Builtin.«sorted»
  refine wpAny_bind (m := checkCount "sorted" 1 1 _) (wpAny_pure ?_)
  refine wpAny_bind (hc _ fun h1 tk vs kp hi => ?_)
  have hlen := hi.length
  refine wpAny_bind (wpAny_newList ?_ (by rw [sizeLine_eq]; omega))
  have hoL : (h1.push (seqObj "list" vs.toArray 0)).get? h1.objs.size = some (seqObj "list" vs.toArray 0) := Heap.get?_push_size _ rfl
  refine wpAny_bind (wpAny_holding (wpAny_call_entry slot_list_sort ⟨_, hoL, rfl⟩ entry_list_sort (list_sort_tree hoL hi (by omega) fun out ns' a1 a2 a3 => ⟨_, rfl, ?_⟩) (args_list_sort _)))
  refine wpAny_pure ⟨_, rfl, ?_⟩
  obtain ⟨e, he⟩ := sortedHeap_at (out := out) hoL
  refine h h1 _ tk out ns' kp (fun b o q => ?_) ⟨e, he⟩ a1 a2 a3
  rw [sortedHeap_old (Nat.ne_of_lt (Heap.lt_size q)) (by rw [size_push']; exact Nat.lt_succ_of_lt (Heap.lt_size q))]
  exact Heap.get?_push_of_some _ q
end

theorem meets_tuple_new_range (r : Addr) (a b : Int) (t u v : Tok) (n : Nat) (hsmall : Builtin.Range.small a b 1 = true) (hn : Builtin.Range.rangeSize a b 1 = n) (hlen : n ≤ 2 ^ 24) :
    Meets (Builtin.«tuple.__new__» ⟨[.type "tuple", .ref r], []⟩)
      (fun A R s => A.handled = none ∧ IsRange s.heap r a b 1 t u v ∧ ∀ (h' : Heap) tk (vs : List Value), (∀ b o', s.heap.get? b = some o' → h'.get? b = some o') → IntsAre vs ((List.range n).map fun (i : Nat) => a + (i : Int)) →
        R (.ok (.ret (.ref h'.objs.size))) { s with heap := h'.push { cls := .type "tuple", data := .seq vs.toArray }, toks := tk }) :=
  .of_wp fun prog w A R s h => by
    obtain ⟨hp, g, d, tk, os⟩ := s; obtain ⟨hh, ht, h⟩ := h
    have hsub := sub_tuple_self
    have hinit := init_tuple_lookup
    have hmh := madeHere_tuple
    have hT : Shared.TypeIs ⟨hp, g, d, tk, os⟩ (.ref r) "range" := ⟨_, ht, rfl⟩
    wp_walk using wpAny_loadPart' ht, wpAny_typeOf hT, collect_range (A := A.in1) (s := ⟨hp, g, d, tk, os⟩) hh ht hsmall hn hlen
    intro h' tk' vs hk hi
    show wpAny _ _ (Builtin.Tuple.tupleExact vs.toArray >>= fun v => ret v) _ _ _
    unfold Builtin.Tuple.tupleExact
    have hl := hi.length
    rw [List.length_map, List.length_range] at hl
    refine wpAny_bind (wpAny_newObj_type ?_ (by show vs.toArray.size ≤ sizeLine; rw [List.size_toArray, sizeLine_eq]; omega))
    refine wpAny_pure ⟨_, rfl, ?_⟩
    exact h h' tk' vs hk hi

section
variable {X : Cx}
theorem call_range1 : CallR X (.type "range") (fun xs H Q => ∃ j, xs = [.int j] ∧ ∀ p, H p = none → Q (.ref p) (upd H p (.rng 0 j))) := by
  intro pins s σ H xs us Q I r h
  obtain ⟨j, rfl, q⟩ := h
  obtain ⟨u, rfl, t, rfl⟩ := vals1 r
  refine call_range_1 ⟨.ref s.heap.objs.size, _, I.laid (fun b o e => Heap.get?_push_of_some _ e) (Nat.le_refl _) ?_, rfl, q _ (I.hok.fresh (Nat.le_refl _))⟩
  exact ⟨_, _, _, Heap.get?_push_size _ rfl⟩
def upto (n : Nat) : List Int := (List.range n).map fun (i : Nat) => (i : Int)
theorem call_tuple_rng (hc : X.calm = true) : CallR X (.type "tuple") (fun xs H Q => ∃ (a : Addr) (n : Nat), xs = [.ref a] ∧ H a = some (.rng 0 n) ∧ n ≤ 1000 ∧ ∀ p H', Same H H' → SqT X.K H' p ((upto n).map V.int) → Q (.ref p) H') := by
  intro pins s σ H xs us Q I r h
  obtain ⟨a, n, rfl, ha, hn, q⟩ := h
  obtain ⟨u, rfl, rx⟩ := vals1 r
  cases rx
  obtain ⟨t, u, v, e⟩ := I.hok a _ ha
  have hsz : Builtin.Range.rangeSize 0 (n : Int) 1 = (n : Int) := by rw [rangeSize_one]; split <;> omega
  have hsm : Builtin.Range.small 0 (n : Int) 1 = true := small_one (by omega) (by omega) (by omega) (by omega)
  have hn24 : n ≤ 2 ^ 24 := Nat.le_trans hn (by decide)
  refine callType_new PySem.F.called_tuple (by decide) (PySem.F.typeCall_tuple_1 _) (PySem.F.newCall_tuple_1 _) (fun obj => PySem.F.args_object_init_2 obj _) PySem.F.entry_tuple_new
    (meets_tuple_new_range a 0 n t u v n hsm hsz hn24) ⟨I.ok.hd hc, e, fun h' tk vs kp hi => ⟨⟨_, Heap.get?_push_size _ rfl, rfl⟩, ?_⟩⟩
  have I1 : Inv X pins σ H { s with heap := h', toks := tk } := I.kept kp
  have e0 : ((List.range n).map fun (i : Nat) => (0 : Int) + (i : Int)) = upto n := by unfold upto; exact List.map_congr_left fun i _ => Int.zero_add _
  rw [e0] at hi
  have hv := vals_ints hi
  have hl : (upto n).length = n := by unfold upto; simp
  have hf := I1.hok.fresh (Nat.le_refl _)
  have I2 : Inv X pins σ (upd H h'.objs.size (.tup ((upto n).map V.int))) { s with heap := h'.push { cls := .type "tuple", data := .seq vs.toArray }, toks := tk } :=
    I1.laid (t' := tk) (fun b o e => Heap.get?_push_of_some _ e) (Nat.le_refl _) (show ObjOk X.prog X.w _ _ _ (.tup _) from ⟨by rw [List.length_map, hl, sizeLine_eq]; omega, vs, 0, hv, Heap.get?_push_size _ rfl⟩)
  exact ⟨.ref h'.objs.size, _, I2, rfl, q _ _ (Same.new hf) (SqT.of upd_same)⟩
end
end L2
set_option Elab.async false
set_option linter.all false
set_option maxRecDepth 100000
namespace L2
open PySem PySem.Spec PyProof.Rows

def tab (L : Bool) (ns : List Nat) : SetTable := { mask := 7, place := ns.toArray, dummies := #[], finger := 0, led := L, moves := 0, plain := true }
def elts (l : List (Nat × Tok)) : Array (Int × Value) := (l.map fun p => ((p.1 : Int), Value.int (p.1 : Int) p.2)).toArray
theorem fs0 : ∀ (L : Bool) (k : Fin 8), (tab L []).freeSlot ((k.val : Nat) : Int) = some (k.val, false) := by decide
theorem fs1 : ∀ (L : Bool) (k j : Fin 8), k ≠ j → (tab L [k.val]).freeSlot ((j.val : Nat) : Int) = some (j.val, false) := by decide +kernel
theorem pt0 : ∀ (L : Bool) (k : Fin 8), (tab L []).put k.val = (tab L [k.val], 0) := by decide
theorem pt1 : ∀ (L : Bool) (k j : Fin 8), k < j → (tab L [k.val]).put j.val = (tab L [k.val, j.val], 1) := by decide +kernel
theorem pt2 : ∀ (L : Bool) (k j : Fin 8), j < k → (tab L [k.val]).put j.val = (tab L [j.val, k.val], 0) := by decide +kernel
theorem hash8 : ∀ k : Fin 8, hashInt ((k.val : Nat) : Int) = ((k.val : Nat) : Int) := by decide +kernel
theorem ft1 : ∀ (L : Bool) (k : Fin 8), (tab L [k.val]).fits 1 = true := by decide
theorem ft2 : ∀ (L : Bool) (k j : Fin 8), (tab L [k.val, j.val]).fits 2 = true := by decide +kernel
theorem tf1 : ∀ (L : Bool) (k : Fin 8), (tab L [k.val]).tooFull = false := by decide
theorem tf2 : ∀ (L : Bool) (k j : Fin 8), (tab L [k.val, j.val]).tooFull = false := by decide +kernel
theorem lay0 (L : Bool) (k : Nat) (t : Tok) (hk : k < 8) : layNew (tab L []) (elts []) (k : Int) (.int k t) = (elts [(k, t)], tab L [k], false, false) := by
  have e := fs0 L ⟨k, hk⟩
  have e2 := pt0 L ⟨k, hk⟩
  have e3 := ft1 L ⟨k, hk⟩
  simp only at e e2 e3
  unfold layNew
  rw [e]
  dsimp only
  rw [e2]
  dsimp only
  have e4 : SetTable.insertAt (elts []) 0 ((k : Int), Value.int k t) = elts [(k, t)] := rfl
  rw [e4]
  show (elts [(k, t)], (tab L [k]).orStandIn 1, false, !(tab L [k]).fits 1) = _
  unfold SetTable.orStandIn
  rw [e3]
  rfl
theorem lay1 (L : Bool) (k j : Nat) (t u : Tok) (hk : k < 8) (hj : j < 8) (h : k < j) : layNew (tab L [k]) (elts [(k, t)]) (j : Int) (.int j u) = (elts [(k, t), (j, u)], tab L [k, j], false, false) := by
  have e := fs1 L ⟨k, hk⟩ ⟨j, hj⟩ (by intro z; have := Fin.mk.inj z; omega)
  have e2 := pt1 L ⟨k, hk⟩ ⟨j, hj⟩ h
  have e3 := ft2 L ⟨k, hk⟩ ⟨j, hj⟩
  simp only at e e2 e3
  unfold layNew
  rw [e]
  dsimp only
  rw [e2]
  dsimp only
  have e4 : SetTable.insertAt (elts [(k, t)]) 1 ((j : Int), Value.int j u) = elts [(k, t), (j, u)] := rfl
  rw [e4]
  show (elts [(k, t), (j, u)], (tab L [k, j]).orStandIn 2, false, !(tab L [k, j]).fits 2) = _
  unfold SetTable.orStandIn
  rw [e3]
  rfl
theorem lay2 (L : Bool) (k j : Nat) (t u : Tok) (hk : k < 8) (hj : j < 8) (h : j < k) : layNew (tab L [k]) (elts [(k, t)]) (j : Int) (.int j u) = (elts [(j, u), (k, t)], tab L [j, k], false, false) := by
  have e := fs1 L ⟨k, hk⟩ ⟨j, hj⟩ (by intro z; have := Fin.mk.inj z; omega)
  have e2 := pt2 L ⟨k, hk⟩ ⟨j, hj⟩ h
  have e3 := ft2 L ⟨j, hj⟩ ⟨k, hk⟩
  simp only at e e2 e3
  unfold layNew
  rw [e]
  dsimp only
  rw [e2]
  dsimp only
  have e4 : SetTable.insertAt (elts [(k, t)]) 0 ((j : Int), Value.int j u) = elts [(j, u), (k, t)] := rfl
  rw [e4]
  show (elts [(j, u), (k, t)], (tab L [j, k]).orStandIn 2, false, !(tab L [j, k]).fits 2) = _
  unfold SetTable.orStandIn
  rw [e3]
  rfl

def SX (L : Bool) (h : Heap) (a : Addr) (l : List (Nat × Tok)) : Prop := ∃ o ep, h.get? a = some o ∧ o.ExactSet ∧ o.data = .set (elts l) ep (tab L (l.map (·.1)))
section
variable {prog : Program} {w : World} {A : Around} {E : Value → Shared → Prop} {s : Shared} {L : Bool} {a : Addr}
theorem elems_elts (prog : Program) (w : World) (l : List (Nat × Tok)) (h8 : ∀ p ∈ l, p.1 < 8) : ElemsOf (intKind prog w) (elts l).toList := by
  intro e he
  unfold elts at he
  rw [List.toList_toArray] at he
  obtain ⟨p, hp, rfl⟩ := List.mem_map.mp he
  refine ⟨⟨(p.1 : Int), ?_, ?_⟩, rfl⟩
  · exact intKind_is _ _ _ _
  · exact (hash8 ⟨p.1, h8 p hp⟩).symm
theorem add_SX {l l' : List (Nat × Tok)} {k : Nat} {t : Tok} {Q : Bool → Shared → Prop} (hS : SX L s.heap a l) (h8 : ∀ p ∈ l, p.1 < 8) (hk : k < 8) (hf : (tab L (l.map (·.1))).fits l.length = true) (hlen : l.length ≤ 1)
    (hnew : (∀ p ∈ l, p.1 ≠ k) → layNew (tab L (l.map (·.1))) (elts l) (k : Int) (.int k t) = (elts l', tab L (l'.map (·.1)), false, false) ∧ (tab L (l'.map (·.1))).tooFull = false ∧ l'.length ≤ 2)
    (hQ : ∀ h' b, Heap.SameBut a s.heap h' → ((∃ p ∈ l, p.1 = k) → SX L h' a l) → ((∀ p ∈ l, p.1 ≠ k) → SX L h' a l') → Q b { s with heap := h', toks := s.toks + 1 }) :
    wpAny (model prog w) A (setAdd a (.int (k : Int) t)) Q E s := by
  obtain ⟨o, ep, ho, hex, hd⟩ := hS
  unfold setAdd
  refine wpAny_holding (wpAny_bind ((intKind prog w).pyHash (k := (k : Int)) (intKind_is _ _ _ _) ?_))
  have hh : (intKind prog w).hash (k : Int) = (k : Int) := hash8 ⟨k, hk⟩
  have hel := elems_elts prog w l h8
  have hsz : (elts l).size = l.length := by unfold elts; rw [List.size_toArray, List.length_map]
  have hfit : (tab L (l.map (·.1))).fits (elts l).size = true := by rw [hsz]; exact hf
  have hscan : byScan (.int (k : Int) t) (elts l) = true := byScan_of (knd := intKind prog w) rfl (by rw [hsz]; unfold scanBound; omega) hel
  unfold setAddHashed setAddHashedIn
  refine wpAny_holding (wpAny_bind (wpAny_setState_of (s := { s with toks := s.toks + 1 }) ho hd hfit ?_))
  dsimp only
  rw [hscan]
  simp only [↓reduceIte]
  unfold setAddByScan
  refine wpAny_bind ?_
  refine wpAny_bind (wpAny_rule ?_)
  refine wpAny_bind (wpAny_setScan_of (knd := intKind prog w) (k := (k : Int)) (intKind_is _ _ _ _) ho hd hfit hel ?_)
  cases hr : List.findIdx? (fun e => (intKind prog w).is (k : Int) e.2) (elts l).toList with
  | some j =>
    dsimp only
    obtain ⟨hj, hpj, _⟩ := List.findIdx?_eq_some_iff_getElem.mp hr
    have hthere : ∃ p ∈ l, p.1 = k := by
      have el : (elts l).toList = l.map fun p => ((p.1 : Int), Value.int (p.1 : Int) p.2) := by unfold elts; rw [List.toList_toArray]
      have hm : (elts l).toList[j] ∈ l.map fun p => ((p.1 : Int), Value.int (p.1 : Int) p.2) := by rw [← el]; exact List.getElem_mem hj
      obtain ⟨p, hp, e⟩ := List.mem_map.mp hm
      refine ⟨p, hp, ?_⟩
      rw [← e] at hpj
      obtain ⟨t', e2⟩ := Value.isInt_shape (show Value.isInt (k : Int) (Value.int (p.1 : Int) p.2) = true from hpj)
      have e3 : (p.1 : Int) = (k : Int) := by injection e2
      exact Int.ofNat.inj e3
    refine wpAny_pure (wpAny_pure ?_)
    exact hQ s.heap false (Heap.SameBut.refl a s.heap) (fun _ => ⟨o, ep, ho, hex, hd⟩) fun hn => by
      obtain ⟨p, hp, e⟩ := hthere
      exact absurd e (hn p hp)
  | none =>
    dsimp only
    have hno : ∀ p ∈ l, p.1 ≠ k := fun p hp e => by
      have := List.findIdx?_eq_none_iff.mp hr ((p.1 : Int), Value.int (p.1 : Int) p.2) (by unfold elts; rw [List.toList_toArray]; exact List.mem_map.mpr ⟨p, hp, rfl⟩)
      rw [e] at this
      have h2 : (intKind prog w).is (k : Int) (Value.int (k : Int) p.2) = true := intKind_is _ _ _ _
      simp only at this
      rw [h2] at this
      cases this
    obtain ⟨e1, e2, e3⟩ := hnew hno
    rw [hh, e1]
    dsimp only
    refine wpAny_bind (wpAny_pure ?_)
    rw [if_pos (show (tab L (l'.map (·.1))).plain = true from rfl), hashByValue_scannable 8 (x := .int (k : Int) t) rfl]
    refine wpAny_bind (wpAny_pure ?_)
    rw [if_pos (show plainKind (.int (k : Int) t) = true from rfl)]
    have hsz' : (elts l').size = l'.length := by unfold elts; rw [List.size_toArray, List.length_map]
    refine wpAny_bind (wpAny_storeSet_of (s := { s with toks := s.toks + 1 }) ho hd ?_ (by rw [hsz', sizeLine_eq]; omega))
    rw [e2]
    simp only [Bool.not_false, Bool.and_false, Bool.false_eq_true, if_false]
    refine wpAny_pure (wpAny_pure ?_)
    refine hQ (s.heap.update a (Obj.putSet (elts l') (tab L (l'.map (·.1))))) true (Heap.SameBut.update _ _ _) (fun ⟨p, hp, e⟩ => absurd e (hno p hp)) fun _ => ⟨{ o with data := .set (elts l') (ep + 1) (tab L (l'.map (·.1))) }, ep + 1, ?_, hex, rfl⟩
    have := Heap.get?_update_self (Obj.putSet (elts l') (tab L (l'.map (·.1)))) ho (by rw [putSet_of _ _ hd]; rfl)
    rw [putSet_of _ _ hd] at this
    exact this
end
end L2
set_option Elab.async false
set_option linter.all false
set_option maxRecDepth 100000
namespace L2
open PySem PySem.Spec PyProof.Rows
section
variable {prog : Program} {w : World} {A : Around} {E : Value → Shared → Prop} {s : Shared}
abbrev Led (w : World) : Bool := !(w.params.followText "set-order")
theorem code_set_new_L (a : Value) {Q₁ : Value → Shared → Prop}
    (h : Q₁ (.ref s.heap.objs.size) { s with heap := s.heap.push { cls := .type "set", dict := none, data := .set #[] 0 (.fresh 0 0 (Led w)) } }) :
    codeAny (model prog w) A (.call (.builtin "set.__new__") ⟨[.type "set", a], []⟩) (wants Q₁ E) s := by
  refine codeAny_of_tree ?_
  show wpAny _ A.in1 (do checkBuiltinCall "set.__new__" ⟨[.type "set", a], []⟩; again (.builtin "set.__new__" ⟨[.type "set", a], []⟩)) _ _ s
  refine wpAny_bind (wpAny_of_eq (PySem.F.newCall_set_1 a) (wpAny_pure ⟨plainId_quiet PySem.F.plain_set_new _, codeAny_builtin PySem.F.entry_set_new ?_⟩))
  rw [Around.under_plainId PySem.F.plain_set_new _]
  unfold Builtin.«set.__new__» Builtin.Frozenset.newClass
  have hsub := sub_set_self
  obtain ⟨hp, g, d, tk, os⟩ := s
  dsimp only
  wp_walk
  refine wpAny_askSetting (wpAny_pure ?_)
  dsimp only
  simp only [newObj]
  refine wpAny_bind (wpAny_alloc (wpAny_pure ?_))
  exact wpAny_pure h
theorem upd_step {I S : Addr} {fp wr : List Addr} {n i : Nat} {P : Nat → Value → Prop} {St : Nat → Heap → Prop} {R : Result → Shared → Prop} (W : Walks prog w A.in1 I fp wr n P St) (hi : i < n) (st : St i s.heap)
    (h : ∀ v h' tk, P i v → St (i + 1) h' → (∀ b o, b ∉ wr → s.heap.get? b = some o → h'.get? b = some o) →
      wpAny (model prog w) A.in1 (setAdd S v) (fun _ s2 => codeAny (model prog w) A (.builtin "set.update.loop" ⟨[.ref S, .ref I], []⟩) R s2) (fun e s' => R (.error e) s') { s with heap := h', toks := tk }) :
    codeAny (model prog w) A (.builtin "set.update.loop" ⟨[.ref S, .ref I], []⟩) R s := by
  refine codeAny_builtin PyProof.Rows.F.entry_set_update_loop ?_
  rw [Around.under_plainId PyProof.Rows.F.plain_set_update_loop _]
  show wpAny _ A.in1 (pyNext (.ref I) >>= _) _ _ s
  refine wpAny_bind (W.item i s _ _ hi st fun v h' tk hP hst' hk => ?_)
  show wpAny _ A.in1 (holding [v] (setAdd S v) >>= _) _ _ _
  refine wpAny_bind (wpAny_holding (wpAny_mono (h v h' tk hP hst' hk) (fun _ s2 q => ?_) fun _ _ e => e))
  exact wpAny_pure ⟨plainId_quiet PyProof.Rows.F.plain_set_update_loop _, q⟩
theorem upd_done {I S : Addr} {fp wr : List Addr} {n : Nat} {P : Nat → Value → Prop} {St : Nat → Heap → Prop} {R : Result → Shared → Prop} (W : Walks prog w A.in1 I fp wr n P St) (st : St n s.heap)
    (h : ∀ h' tk, (∀ b o, b ∉ wr → s.heap.get? b = some o → h'.get? b = some o) → R (.ok (.ret .none)) { s with heap := h', toks := tk }) :
    codeAny (model prog w) A (.builtin "set.update.loop" ⟨[.ref S, .ref I], []⟩) R s := by
  refine codeAny_builtin PyProof.Rows.F.entry_set_update_loop ?_
  rw [Around.under_plainId PyProof.Rows.F.plain_set_update_loop _]
  show wpAny _ A.in1 (pyNext (.ref I) >>= _) _ _ s
  refine wpAny_bind (W.done s _ _ st fun h' tk hk => ?_)
  show wpAny _ A.in1 (ret Value.none) _ _ _
  exact wpAny_pure (h h' tk hk)
def two (a b : Nat) (t u : Tok) : List (Nat × Tok) := if a = b then [(a, t)] else if a < b then [(a, t), (b, u)] else [(b, u), (a, t)]
theorem SX.keep {L : Bool} {h h' : Heap} {a : Addr} {l : List (Nat × Tok)} (x : SX L h a l) (k : ∀ o, h.get? a = some o → h'.get? a = some o) : SX L h' a l := by
  obtain ⟨o, ep, e, r⟩ := x
  exact ⟨o, ep, k o e, r⟩
set_option maxHeartbeats 3200000 in
theorem call_set_two {l : Addr} {a b : Nat} {t u : Tok} {Q : Value → Shared → Prop} (hh : A.handled = none) (hl : s.heap.IsList l #[.int (a : Int) t, .int (b : Int) u]) (ha : a < 8) (hb : b < 8)
    (h : ∀ (h' : Heap) (tk : Nat), SX (Led w) h' s.heap.objs.size (two a b t u) → (∀ b o, b < s.heap.objs.size → s.heap.get? b = some o → h'.get? b = some o) → Q (.ref s.heap.objs.size) { s with heap := h', toks := tk }) :
    wpAny (model prog w) A (call (.type "set") [.ref l]) Q E s := by
  obtain ⟨c, tl, hmro⟩ := PySem.F.called_set.mro
  have hmade := PySem.F.called_set.made
  have hsub := PySem.F.called_set.sub
  refine wpAny_call (codeAny_of_tree ?_)
  show wpAny _ _ (callAny (.type "set") _) _ _ _
  refine wpAny_pure ⟨Code.quiet_builtin _ (by decide +kernel), codeAny_builtin PySem.F.entry_type_call ?_⟩
  rw [Around.under_plain (weight_type_call_type "set" [.ref l] []) rfl]
  have h1 := PySem.F.called_set.notType
  have h2 := PySem.F.called_set.canCreate
  have hct := PySem.F.typeCall_set_1 (.ref l)
  repeat (any_goals (first | assumption | wp_step))
  refine codeAny_mono (code_set_new_L (.ref l) (E := E) (Q₁ := fun obj s₁ => obj = .ref s.heap.objs.size ∧ s₁ = { s with heap := s.heap.push { cls := .type "set", dict := none, data := .set #[] 0 (.fresh 0 0 (Led w)) } }) ⟨rfl, rfl⟩) fun r s₁ hr => ?_
  cases r with
  | error e => exact hr
  | ok fl =>
    cases fl with
    | ret obj =>
      obtain ⟨rfl, rfl⟩ := hr
      generalize hled : Led w = led at h ⊢
      have hS : (s.heap.push { cls := .type "set", dict := none, data := .set #[] 0 (.fresh 0 0 led) }).get? s.heap.objs.size = some { cls := .type "set", dict := none, data := .set #[] 0 (.fresh 0 0 led) } := Heap.get?_push_size _ rfl
      have hT : Shared.TypeIs { s with heap := s.heap.push { cls := .type "set", dict := none, data := .set #[] 0 (.fresh 0 0 led) } } (.ref s.heap.objs.size) "set" := ⟨_, hS, rfl⟩
      have hli := PySem.F.called_set.init.lookup
      have hbi := PySem.F.called_set.init.bind (.ref s.heap.objs.size)
      repeat (any_goals (first | assumption | wp_step))
      refine codeAny_mono (codeAny_call_builtin (R := wants (fun r s₂ => r = .none ∧ ∃ h' tk, s₂ = { s with heap := h', toks := tk } ∧ SX led h' s.heap.objs.size (two a b t u) ∧
          (∀ b o, b < s.heap.objs.size → s.heap.get? b = some o → h'.get? b = some o)) E) PySem.F.called_set.init.plain PySem.F.entry_set_init (check_set_init_1 hT ?_)) fun r₂ s₂ hr₂ => ?_
      · obtain ⟨ol, hol, hcl, nl, hdl⟩ := hl
        obtain ⟨ocls, odict, odata, oslots⟩ := ol
        simp only at hcl hdl
        subst hcl; subst hdl
        have hol' : (s.heap.push { cls := .type "set", dict := none, data := .set #[] 0 (.fresh 0 0 led) }).get? l = some { cls := .type "list", dict := odict, data := .seq #[.int (a : Int) t, .int (b : Int) u] nl, slots := oslots } := Heap.get?_push_of_some _ hol
        have hsls := PySem.F.sub_list_set
        have hslf := PySem.F.sub_list_frozenset
        have hne : (Value.type "list" == Value.type "dict") = false := by decide
        have hl1 : (s.heap.push { cls := .type "set", dict := none, data := .set #[] 0 (.fresh 0 0 led) }).IsList l #[.int (a : Int) t, .int (b : Int) u] := ⟨_, hol', rfl, nl, rfl⟩
        unfold Builtin.«set.__init__» noKeywords Builtin.Frozenset.updateFrom
        generalize hPI : pyIter = PI
        wp_walk
        subst hPI
        refine wpAny_pyIter_list hl1 ?_
        refine wpAny_bind (wpAny_runValue ?_)
        have hlS : l < s.heap.objs.size := Heap.lt_size hol
        have hh3 : A.in1.in1.in1.handled = none := by simp [hh]
        generalize hH1 : s.heap.push { cls := .type "set", dict := none, data := .set #[] 0 (.fresh 0 0 led) } = H1 at *
        have szH1 : H1.objs.size = s.heap.objs.size + 1 := by rw [← hH1, Heap.size_push]
        have hneI : l ≠ H1.objs.size := by rw [szH1]; exact Nat.ne_of_lt (Nat.lt_succ_of_lt hlS)
        have W := Walks.list (prog := prog) (w := w) hh3 H1.objs.size l hneI #[.int (a : Int) t, .int (b : Int) u]
        generalize hS0 : s.heap.objs.size = S at *
        have SI : S ≠ H1.objs.size := by omega
        have SXk : ∀ {h h' : Heap} {ll : List (Nat × Tok)}, SX led h S ll → (∀ b o, b ∉ [H1.objs.size] → h.get? b = some o → h'.get? b = some o) → SX led h' S ll := fun x k => x.keep fun o e => k S o (by simpa using SI) e
        have x0 : SX led (H1.push { cls := .type "list_iterator", data := .fields #[.ref l, .int 0 0] }) S [] := ⟨_, 0, Heap.get?_push_of_some _ hS, ⟨rfl, rfl, rfl⟩, rfl⟩
        have lS : l ≠ S := Nat.ne_of_lt hlS
        refine upd_step W (i := 0) (by show 0 < 2; decide) ⟨⟨_, Heap.get?_push_size _ rfl, rfl, rfl⟩, hl1.push _⟩ fun v h2 tk2 hv2 st2 k2 => ?_
        have hv2' : v = .int (a : Int) t := (Option.some.inj (show some (Value.int (a : Int) t) = some v from hv2)).symm
        subst hv2'
        refine add_SX (l := []) (l' := [(a, t)]) (SXk x0 k2) (fun p hp => by cases hp) ha rfl (by decide) (fun _ => ⟨lay0 led a t ha, tf1 led ⟨a, ha⟩, by show 1 ≤ 2; decide⟩) fun h3 _ sb3 _ x3 => ?_
        have x3' := x3 fun p hp => by cases hp
        have st3 : h3.IsListIter H1.objs.size l 1 ∧ h3.IsList l #[.int (a : Int) t, .int (b : Int) u] := W.frame _ _ _ st2 fun c hc o e => (sb3.2 c (by
          rcases List.mem_cons.mp hc with z | z
          · rw [z]; exact Ne.symm SI
          · have z' : c = l := by simpa using z
            rw [z']; exact lS)).trans e
        refine upd_step W (i := 1) (by show 1 < 2; decide) st3 fun v h4 tk4 hv4 st4 k4 => ?_
        have hv4' : v = .int (b : Int) u := (Option.some.inj (show some (Value.int (b : Int) u) = some v from hv4)).symm
        subst hv4'
        refine add_SX (l := [(a, t)]) (l' := if a < b then [(a, t), (b, u)] else [(b, u), (a, t)]) (SXk x3' k4) (fun p hp => by rw [List.mem_singleton.mp hp]; exact ha) hb (ft1 led ⟨a, ha⟩) (by show 1 ≤ 1; decide) (fun hn => ?_) fun h5 _ sb5 xo xn => ?_
        · have hab : a ≠ b := hn (a, t) List.mem_cons_self
          by_cases hlt : a < b
          · rw [if_pos hlt]; exact ⟨lay1 led a b t u ha hb hlt, tf2 led ⟨a, ha⟩ ⟨b, hb⟩, by simp⟩
          · rw [if_neg hlt]; exact ⟨lay2 led a b t u ha hb (by omega), tf2 led ⟨b, hb⟩ ⟨a, ha⟩, by simp⟩
        · have x5 : SX led h5 S (two a b t u) := by
            unfold two
            by_cases hab : a = b
            · rw [if_pos hab]; exact xo ⟨(a, t), List.mem_cons_self, hab⟩
            · rw [if_neg hab]; exact xn fun p hp => by rw [List.mem_singleton.mp hp]; exact hab
          have st5 : h5.IsListIter H1.objs.size l 2 ∧ h5.IsList l #[.int (a : Int) t, .int (b : Int) u] := W.frame _ _ _ st4 fun c hc o e => (sb5.2 c (by
            rcases List.mem_cons.mp hc with z | z
            · rw [z]; exact Ne.symm SI
            · have z' : c = l := by simpa using z
              rw [z']; exact lS)).trans e
          refine upd_done W st5 fun h6 tk6 k6 => ?_
          show wpAny _ _ _ _ _ _
          refine wpAny_pure ?_
          show wpAny _ _ (ret Value.none) _ _ _
          refine wpAny_pure ⟨rfl, h6, tk6, rfl, SXk x5 k6, fun c o hc e => ?_⟩
          have c1 : c ≠ S := Nat.ne_of_lt hc
          have c2 : c ∉ [H1.objs.size] := by
            intro z
            have z' : c = H1.objs.size := by simpa using z
            omega
          exact k6 c o c2 ((sb5.2 c c1).trans (k4 c o c2 ((sb3.2 c c1).trans (k2 c o c2 (Heap.get?_push_of_some _ (hH1 ▸ Heap.get?_push_of_some _ e))))))
      · cases r₂ with
        | error e => exact hr₂
        | ok fl₂ =>
          cases fl₂ with
          | ret r =>
            obtain ⟨rfl, h', tk, rfl, hS', hk'⟩ := hr₂
            repeat (any_goals (first | assumption | wp_step))
            exact h _ _ hS' hk'
          | _ => exact hr₂.elim
    | _ => exact hr.elim
end
end L2
set_option Elab.async false
set_option linter.all false
set_option maxRecDepth 100000
namespace L2
open PySem PySem.Spec PyProof.Rows
theorem slot_set_iterator_next : Slot "set_iterator" "__next__" "set_iterator.__next__" :=
  .of (owner := "set_iterator") (n := "__next__") (by rw [typeLookup_type, builtinLookup_eq_fast]; kernel_rfl) (by decide +kernel) (by decide +kernel) (by decide +kernel)
    (by first | exact .inl (by decide +kernel) | exact .inr (by decide +kernel)) (by rw [isSubtype_type]; kernel_rfl)
theorem entry_set_iterator_next : entryFor table "set_iterator.__next__" = some Builtin.«set_iterator.__next__» := entryFor_of_tree (by kernel_rfl)
theorem args_set_iterator_next_1 (a : Value) : argsOk "set_iterator.__next__" ⟨[a], []⟩ := by
  unfold argsOk; kernel_rfl
theorem slot_set_iterator_iter : Slot "set_iterator" "__iter__" "set_iterator.__iter__" :=
  .of (owner := "set_iterator") (n := "__iter__") (by rw [typeLookup_type, builtinLookup_eq_fast]; kernel_rfl) (by decide +kernel) (by decide +kernel) (by decide +kernel)
    (by first | exact .inl (by decide +kernel) | exact .inr (by decide +kernel)) (by rw [isSubtype_type]; kernel_rfl)
theorem entry_set_iterator_iter : entryFor table "set_iterator.__iter__" = some Builtin.«dict_keyiterator.__iter__» :=
  entryFor_alias (id' := "dict_keyiterator.__iter__") (by kernel_rfl) rfl (by decide +kernel) (by kernel_rfl)
theorem args_set_iterator_iter_1 (a : Value) : argsOk "set_iterator.__iter__" ⟨[a], []⟩ := by
  unfold argsOk; kernel_rfl
theorem entry_set_iter : entryFor table "set.__iter__" = some Builtin.«frozenset.__iter__» :=
  entryFor_alias (id' := "frozenset.__iter__") (by kernel_rfl) rfl (by decide +kernel) (by kernel_rfl)

def Okl (l : List (Nat × Tok)) : Prop := (∃ p, l = [p] ∧ p.1 < 8) ∨ ∃ p q, l = [p, q] ∧ p.1 < q.1 ∧ q.1 < 8
def slotT (ns : List Nat) (i : Nat) : Nat := if i = 0 then 0 else (ns[i - 1]?).getD 0 + 1
theorem bl1 : ∀ (k : Fin 8) (i : Fin 2), SetTable.below #[k.val] (slotT [k.val] i.val) = i.val := by decide +kernel
theorem bl2 : ∀ (k j : Fin 8) (i : Fin 3), k < j → SetTable.below #[k.val, j.val] (slotT [k.val, j.val] i.val) = i.val := by decide +kernel
theorem below_ok {l : List (Nat × Tok)} (h : Okl l) (i : Nat) (hi : i ≤ l.length) : SetTable.below (l.map (·.1)).toArray (slotT (l.map (·.1)) i) = i := by
  rcases h with ⟨p, rfl, h8⟩ | ⟨p, q, rfl, h1, h8⟩
  · exact bl1 ⟨p.1, h8⟩ ⟨i, by simp at hi; omega⟩
  · exact bl2 ⟨p.1, by omega⟩ ⟨q.1, h8⟩ ⟨i, by simp at hi; omega⟩ h1
theorem Okl.fits {L : Bool} {l : List (Nat × Tok)} (h : Okl l) : (tab L (l.map (·.1))).fits (elts l).size = true := by
  rcases h with ⟨p, rfl, h8⟩ | ⟨p, q, rfl, h1, h8⟩
  · exact ft1 L ⟨p.1, h8⟩
  · exact ft2 L ⟨p.1, by omega⟩ ⟨q.1, h8⟩
theorem two_ok {a b : Nat} {t u : Tok} (ha : a < 8) (hb : b < 8) : Okl (two a b t u) := by
  unfold two
  by_cases h : a = b
  · rw [if_pos h]; exact .inl ⟨_, rfl, ha⟩
  · rw [if_neg h]
    by_cases h2 : a < b
    · rw [if_pos h2]; exact .inr ⟨_, _, rfl, h2, hb⟩
    · rw [if_neg h2]; exact .inr ⟨_, _, rfl, by show b < a; omega, ha⟩
def ordE (w : World) (S : Addr) (ep : Nat) (l : List (Nat × Tok)) : Array (Int × Value) := if w.params.followText "set-order" then pickOrder (w.params.setOrder S ep) (elts l) else elts l
def slotA (w : World) (l : List (Nat × Tok)) (i : Nat) : Nat := if w.params.followText "set-order" then 0 else slotT (l.map (·.1)) i
section
variable {prog : Program} {w : World} {A : Around} {E : Value → Shared → Prop} {s : Shared} {S : Addr} {o : Obj} {ep : Nat} {l : List (Nat × Tok)}
theorem wp_byText {Q : Bool → Shared → Prop} (h : Q (w.params.followText "set-order") s) : wpAny (model prog w) A setsByText Q E s := wpAny_bind (wpAny_askSetting (wpAny_pure h))
theorem wp_setNext {i : Nat} {Q : Option (Value × Nat) → Shared → Prop} (hl : Okl l) (ho : s.heap.get? S = some o) (hd : o.data = .set (elts l) ep (tab (Led w) (l.map (·.1)))) (hi : i ≤ l.length)
    (h : Q (((ordE w S ep l)[i]?).map fun e => (e.2, slotA w l (i + 1))) s) : wpAny (model prog w) A (setNext S (slotA w l i) i ep) Q E s := by
  unfold setNext
  refine wpAny_bind (wpAny_setState_of ho hd hl.fits ?_)
  dsimp only
  refine wpAny_bind (wp_byText ?_)
  cases hb : w.params.followText "set-order" with
  | true =>
    have e1 : ordE w S ep l = pickOrder (w.params.setOrder S ep) (elts l) := by unfold ordE; rw [hb]; rfl
    have e2 : ∀ i, slotA w l i = 0 := fun i => by unfold slotA; rw [hb]; rfl
    rw [e1, e2] at h
    rw [e2]
    simp only [if_true, bne_self_eq_false, Bool.false_eq_true, if_false]
    refine wpAny_bind ?_
    unfold setWalk
    refine wpAny_bind (wpAny_setState_of ho hd hl.fits ?_)
    dsimp only
    refine wpAny_bind (wp_byText ?_)
    rw [hb]
    simp only [if_true]
    refine wpAny_bind (wpAny_askSetting (wpAny_pure (wpAny_pure h)))
  | false =>
    have e1 : ordE w S ep l = elts l := by unfold ordE; rw [hb]; rfl
    have e2 : ∀ i, slotA w l i = slotT (l.map (·.1)) i := fun i => by unfold slotA; rw [hb]; rfl
    have eL : Led w = true := by unfold Led; rw [hb]; rfl
    rw [e1, e2] at h
    rw [e2, eL]
    simp only [Bool.false_eq_true, if_false]
    have hp : (tab true (l.map (·.1))).place = (l.map (·.1)).toArray := rfl
    have hbl := below_ok hl i hi
    refine wpAny_ite_split (fun hab => absurd (show false = true from hab) Bool.false_ne_true) (fun _ => ?_)
    refine wpAny_bind (m := pure ()) (wpAny_pure (wpAny_pure ?_))
    rw [hp, hbl]
    have e3 : (elts l)[i]? = (l[i]?).map fun p => ((p.1 : Int), Value.int (p.1 : Int) p.2) := by unfold elts; simp
    have e4 : (l.map (·.1)).toArray[i]? = (l[i]?).map (·.1) := by simp
    rw [e3] at h
    rw [e3, e4]
    cases hli : l[i]? with
    | none => rw [hli] at h; exact h
    | some p =>
      rw [hli] at h
      have e5 : slotT (l.map (·.1)) (i + 1) = p.1 + 1 := by
        unfold slotT
        rw [if_neg (by omega), Nat.add_sub_cancel, List.getElem?_map, hli]
        rfl
      rw [e5] at h
      exact h
def IsSetIt (w : World) (h : Heap) (I S : Addr) (l : List (Nat × Tok)) (ep i : Nat) : Prop :=
  h.get? I = some { cls := .type "set_iterator", data := .fields #[rawInt (slotA w l i : Nat), rawInt (i : Nat), .ref S, rawInt (l.length : Nat), rawInt (ep : Nat)] }
theorem setWalks (hh : A.handled = none) (I S : Addr) (hne : S ≠ I) (o : Obj) (ep : Nat) (l : List (Nat × Tok)) (hl : Okl l) (hd : o.data = .set (elts l) ep (tab (Led w) (l.map (·.1)))) (hsz : (ordE w S ep l).size = l.length) :
    Walks prog w A I [I, S] [I] l.length (fun i v => ∃ k, (ordE w S ep l)[i]? = some (k, v)) (fun i h => IsSetIt w h I S l ep i ∧ h.get? S = some o) where
  sub := fun b hb => by simp at hb; simp [hb]
  frame := fun _ _ _ st hk => ⟨hk I (by simp) _ st.1, hk S (by simp) _ st.2⟩
  item := fun i s Q E hi st hQ => by
    obtain ⟨hit, hS⟩ := st
    have hT : s.TypeIs (.ref I) "set_iterator" := ⟨_, hit, rfl⟩
    unfold pyNext
    refine wpAny_bind (wpAny_attempt (wpAny_callSpecial?_slot (name := Str.ofString "__next__") hT slot_set_iterator_next
      (wpAny_call_entry slot_set_iterator_next hT entry_set_iterator_next ?_ (args_set_iterator_next_1 _))))
    unfold Builtin.«set_iterator.__next__» slotArgs
    simp only [List.isEmpty_nil, Bool.not_true, Bool.false_eq_true, ↓reduceIte, List.length_nil, bne_self_eq_false]
    refine wpAny_bind (wpAny_pure ?_)
    dsimp only
    refine wpAny_bind (wpAny_fieldsOf hit rfl ?_)
    show wpAny _ _ (setEntries S >>= _) _ _ s
    have hsz' : (elts l).size = l.length := by unfold elts; rw [List.size_toArray, List.length_map]
    refine wpAny_bind (wpAny_bind (wpAny_setState_of hS hd hl.fits (wpAny_pure ?_)))
    dsimp only
    refine wpAny_ite_split (fun hab => absurd hab (by rw [hsz']; simp)) (fun _ => ?_)
    show wpAny _ _ (setNext S (slotA w l i : Int).toNat (i : Int).toNat (ep : Int).toNat >>= _) _ _ s
    rw [Int.toNat_natCast, Int.toNat_natCast, Int.toNat_natCast]
    refine wpAny_bind (wp_setNext hl hS hd (by omega) ?_)
    obtain ⟨⟨k, v⟩, hkv⟩ : ∃ e, (ordE w S ep l)[i]? = some e := ⟨_, Array.getElem?_eq_getElem (by rw [hsz]; exact hi)⟩
    rw [hkv]
    show wpAny _ _ (setField (Value.ref I) 0 (rawInt ↑(slotA w l (i + 1))) >>= _) _ _ s
    refine wpAny_bind (wpAny_setField_rec hit (by show 0 < 5; decide) fun h1 g1 sb1 => ?_)
    refine wpAny_bind (wpAny_setField_rec g1 (by show 1 < 5; decide) fun h2 g2 sb2 => ?_)
    refine wpAny_pure ⟨v, rfl, wpAny_pure ?_⟩
    refine hQ v h2 s.toks ⟨k, hkv⟩ ⟨?_, (sb2.2 S hne).trans ((sb1.2 S hne).trans hS)⟩ fun b ob hb e => ?_
    · unfold IsSetIt
      rw [g2]
      congr 1
    · have hb' : b ≠ I := by simpa using hb
      exact (sb2.2 b hb').trans ((sb1.2 b hb').trans e)
  done := fun s Q E st hQ => by
    obtain ⟨hit, hS⟩ := st
    have hT : s.TypeIs (.ref I) "set_iterator" := ⟨_, hit, rfl⟩
    unfold pyNext
    refine wpAny_bind (wpAny_attempt (wpAny_callSpecial?_slot (name := Str.ofString "__next__") hT slot_set_iterator_next
      (wpAny_call_entry slot_set_iterator_next hT entry_set_iterator_next ?_ (args_set_iterator_next_1 _))))
    unfold Builtin.«set_iterator.__next__» slotArgs
    simp only [List.isEmpty_nil, Bool.not_true, Bool.false_eq_true, ↓reduceIte, List.length_nil, bne_self_eq_false]
    refine wpAny_bind (wpAny_pure ?_)
    dsimp only
    refine wpAny_bind (wpAny_fieldsOf hit rfl ?_)
    show wpAny _ _ (setEntries S >>= _) _ _ s
    have hsz' : (elts l).size = l.length := by unfold elts; rw [List.size_toArray, List.length_map]
    refine wpAny_bind (wpAny_bind (wpAny_setState_of hS hd hl.fits (wpAny_pure ?_)))
    dsimp only
    refine wpAny_ite_split (fun hab => absurd hab (by rw [hsz']; simp)) (fun _ => ?_)
    show wpAny _ _ (setNext S (slotA w l l.length : Int).toNat (l.length : Int).toNat (ep : Int).toNat >>= _) _ _ s
    rw [Int.toNat_natCast, Int.toNat_natCast, Int.toNat_natCast]
    refine wpAny_bind (wp_setNext hl hS hd (Nat.le_refl _) ?_)
    have hkv : (ordE w S ep l)[l.length]? = none := by rw [Array.getElem?_eq_none]; omega
    rw [hkv]
    show wpAny _ _ (setField (Value.ref I) 2 Value.none >>= _) _ _ s
    refine wpAny_bind (wpAny_setField_rec hit (by show 2 < 5; decide) fun h1 g1 sb1 => ?_)
    show wpAny _ _ (newExc (.type "StopIteration") [] >>= _) _ _ _
    refine wpAny_bind ?_
    simp only [newExc, newTuple]
    refine wpAny_bind (wpAny_newObj_type ?_ (by size_fits))
    refine wpAny_bind (m := firstArgMember _ _) (wpAny_of_eq (a := Value.none) (by first | rfl | (simp only [firstArgMember]; rfl)) ?_)
    refine wpAny_newObj_type ?_ (by size_fits)
    simp only [raiseNew]
    refine wpAny_bind (wpAny_handled ?_)
    first | rw [show A.in1.handled = none from hh] | rw [hh]
    refine wpAny_bind (wpAny_pure (wpAny_throw ?_))
    refine wpAny_bind (wpAny_isInstance (T := "StopIteration") (b := true) ⟨_, Heap.get?_push_size _ rfl, rfl⟩ isSubtype_stop ?_)
    refine wpAny_pure (hQ _ s.toks fun b ob hb e => ?_)
    have hb' : b ≠ I := by simpa using hb
    exact Heap.get?_push_of_some _ (Heap.get?_push_of_some _ ((sb1.2 b hb').trans e))
  self := fun i s Q E st h => by
    obtain ⟨hit, hS⟩ := st
    have hT : s.TypeIs (.ref I) "set_iterator" := ⟨_, hit, rfl⟩
    refine wpAny_pyIter_slot hT slot_set_iterator_iter (wpAny_call_entry slot_set_iterator_iter hT entry_set_iterator_iter ?_ (args_set_iterator_iter_1 _))
    show wpAny _ _ (ret (.ref I)) _ _ s
    exact wpAny_pure ⟨_, rfl, "set_iterator", _, hT, slot_set_iterator_next.lookup, h⟩
end
end L2
set_option Elab.async false
set_option linter.all false
set_option maxRecDepth 100000
namespace L2
open PySem PySem.Spec PyProof.Rows
section
variable {prog : Program} {w : World} {A : Around} {E : Value → Shared → Prop} {s : Shared} {S : Addr} {o : Obj} {ep : Nat} {l : List (Nat × Tok)}
theorem pyIter_set {Q : Value → Shared → Prop} (hl : Okl l) (ho : s.heap.get? S = some o) (hex : o.ExactSet) (hd : o.data = .set (elts l) ep (tab (Led w) (l.map (·.1))))
    (h : Q (.ref s.heap.objs.size) { s with heap := s.heap.push { cls := .type "set_iterator", data := .fields #[rawInt (slotA w l 0 : Nat), rawInt ((0 : Nat) : Int), .ref S, rawInt (l.length : Nat), rawInt (ep : Nat)] } }) : wpAny (model prog w) A (pyIter (.ref S)) Q E s := by
  have hT : s.TypeIs (.ref S) "set" := ⟨o, ho, hex.1⟩
  refine wpAny_pyIter_slot hT PySem.F.slot_set_iter (wpAny_call_entry PySem.F.slot_set_iter hT entry_set_iter ?_ (PySem.F.args_set_iter_1 _))
  unfold Builtin.«frozenset.__iter__» Builtin.Frozenset.slot0 slotArgs
  simp only [List.isEmpty_nil, Bool.not_true, Bool.false_eq_true, ↓reduceIte, bind_assoc, List.length_nil, bne_self_eq_false]
  refine wpAny_bind (wpAny_pure ?_)
  dsimp only
  refine wpAny_bind (m := Builtin.Frozenset.addrOf (.ref S)) (wpAny_pure ?_)
  unfold Builtin.Frozenset.sizeOf setEntries
  refine wpAny_bind (wpAny_bind (wpAny_bind (wpAny_setState_of ho hd hl.fits (wpAny_pure (wpAny_pure ?_)))))
  dsimp only
  unfold setDrawn
  refine wpAny_bind (wpAny_bind (wpAny_setState_of ho hd hl.fits (wpAny_bind (wp_byText (wpAny_pure ?_)))))
  have hb : ∀ b : Bool, (!b && false) = false := by decide
  refine wpAny_ite_split (fun hab => absurd (show (!(w.params.followText "set-order") && false) = true from hab) (by rw [hb]; decide)) (fun _ => ?_)
  refine wpAny_bind (wpAny_pure ?_)
  unfold setEpoch
  refine wpAny_bind (wpAny_bind (wpAny_setState_of ho hd hl.fits (wpAny_pure ?_)))
  dsimp only
  have hsz' : (elts l).size = l.length := by unfold elts; rw [List.size_toArray, List.length_map]
  have e0 : slotA w l 0 = 0 := by unfold slotA slotT; split <;> rfl
  refine wpAny_bind (wpAny_newObj_type (wpAny_pure ⟨_, rfl, "set_iterator", _, ⟨_, Heap.get?_push_size _ rfl, rfl⟩, slot_set_iterator_next.lookup, ?_⟩))
  rw [e0] at h
  rw [hsz']
  exact h
theorem hint_set {Q : Bool → Shared → Prop} (hl : Okl l) (ho : s.heap.get? S = some o) (hex : o.ExactSet) (hd : o.data = .set (elts l) ep (tab (Led w) (l.map (·.1))))
    (h : ∀ b, Q b s) : wpAny (model prog w) A (Builtin.List.listLengthHint (.ref S)) Q E s := by
  have hT : s.TypeIs (.ref S) "set" := ⟨o, ho, hex.1⟩
  have hsz' : (elts l).size = l.length := by unfold elts; rw [List.size_toArray, List.length_map]
  have hlen : l.length ≤ 2 := by rcases hl with ⟨p, rfl, _⟩ | ⟨p, q, rfl, _⟩ <;> simp
  unfold Builtin.List.listLengthHint
  refine wpAny_bind (wpAny_specialOf hT PySem.F.slot_set_len.lookup ?_)
  generalize hid : ("set.__len__" : String) = id0
  wp_delta
  rw [show splitId id0 = some ("set", "__len__") from by subst hid; decide +kernel]
  subst hid
  refine wpAny_bind (wpAny_isInstance (T := "set") (b := true) hT (by rw [isSubtype_type]; kernel_rfl) ?_)
  refine wpAny_ite_split (fun hab => absurd hab (by decide)) (fun _ => ?_)
  refine wpAny_ite_split (fun _ => ?_) (fun hab => absurd (by decide +kernel) hab)
  refine wpAny_bind (wpAny_typeOf hT ?_)
  exact wpAny_pure (h false)
theorem collect_set {Q : List Value → Shared → Prop} (hh : A.handled = none) (hl : Okl l) (ho : s.heap.get? S = some o) (hex : o.ExactSet) (hd : o.data = .set (elts l) ep (tab (Led w) (l.map (·.1)))) (hsz : (ordE w S ep l).size = l.length)
    (h : ∀ h' tk vs, (∀ b o, s.heap.get? b = some o → h'.get? b = some o) → vs = (ordE w S ep l).toList.map (·.2) → Q vs { s with heap := h', toks := tk }) : wpAny (model prog w) A (collect (.ref S)) Q E s := by
  refine collect_by fun R hR => ?_
  generalize hD : s.heap.objs.size = D at *
  have hSD : @LT.lt Nat instLTNat S D := by rw [← hD]; exact Heap.lt_size ho
  generalize hH0 : s.heap.push { cls := .type "list", data := .seq ([] : List Value).toArray } = H0
  have szH0 : H0.objs.size = D + 1 := by rw [← hH0, Heap.size_push, hD]
  have ho' : H0.get? S = some o := by rw [← hH0]; exact Heap.get?_push_of_some _ ho
  have hDl : H0.get? D = some { cls := .type "list", data := .seq #[] 0 } := by rw [← hH0, ← hD]; exact Heap.get?_push_size _ rfl
  have old0 : ∀ b ob, s.heap.get? b = some ob → H0.get? b = some ob := fun b ob e => by rw [← hH0]; exact Heap.get?_push_of_some _ e
  unfold Builtin.List.listExtendWith
  refine wpAny_bind (wpAny_typeOf (T := "set") ⟨o, ho', hex.1⟩ ?_)
  have h1 : Builtin.List.listSameRef (.ref D) (.ref S) = false := by simp [Builtin.List.listSameRef]; exact Nat.ne_of_gt hSD
  have h2 : (Value.type "set" == Value.type "list") = false := by decide
  have h3 : (Value.type "set" == Value.type "tuple") = false := by decide
  simp only [h1, h2, h3, Bool.or_false, Bool.false_eq_true, if_false]
  refine wpAny_bind (pyIter_set (s := { s with heap := H0 }) hl ho' hex hd ?_)
  generalize hI : H0.objs.size = I at *
  have W := (setWalks (prog := prog) (w := w) (A := A.in1) hh I S (Nat.ne_of_lt (by omega)) o ep l hl hd hsz).toS
  have key : ∀ (hp : Heap) (c tk : Nat), IsSetIt w hp I S l ep 0 → hp.get? S = some o → (∀ b ob, b ≠ D → H0.get? b = some ob → hp.get? b = some ob) → hp.get? D = some { cls := .type "list", data := .seq #[] c } →
      codeAny (model prog w) A (.builtin "list.extend.loop" ⟨[.ref D, .ref I, .ref D], []⟩) R { s with heap := hp, toks := tk } := by
    intro hp c tk hit hS hk hDl'
    refine codeAny_extend_loopS W (by rw [sizeLine_eq]; rcases hl with ⟨p, rfl, _⟩ | ⟨p, q, rfl, _⟩ <;> simp) D (by
      simp only [List.mem_cons, List.mem_singleton, List.not_mem_nil, or_false, not_or]
      exact ⟨Nat.ne_of_lt (by omega), Nat.ne_of_gt hSD⟩) (.ref D) l.length 0 _ #[] c rfl (Nat.zero_le _) ⟨hit, hS⟩ hDl' (ItemsOf.nil _) fun s' acc' c' hm hS' hacc => ?_
    rw [Moved.eq_with hm]
    refine hR { s with heap := s'.heap, toks := s'.toks } acc' c' hS' (h s'.heap s'.toks acc'.toList (fun b ob e => hm.heap b ob (fun hmem => ?_) (hk b ob ?_ (old0 b ob e))) ?_)
    · have hb : @LT.lt Nat instLTNat b D := by rw [← hD]; exact Heap.lt_size e
      rcases List.mem_cons.mp hmem with z | z
      · exact absurd z (Nat.ne_of_lt hb)
      · have z' : b = I := by simpa using z
        exact absurd z' (Nat.ne_of_lt (by omega))
    · have hb : @LT.lt Nat instLTNat b D := by rw [← hD]; exact Heap.lt_size e
      exact Nat.ne_of_lt hb
    · obtain ⟨hs, hi⟩ := hacc
      apply List.ext_getElem?
      intro j
      rw [List.getElem?_map, Array.getElem?_toList, Array.getElem?_toList]
      cases e : acc'[j]? with
      | none =>
        have hj : l.length ≤ j := by
          rw [← hs]
          exact Array.getElem?_eq_none_iff.mp e
        rw [Array.getElem?_eq_none (by omega)]
        rfl
      | some v =>
        obtain ⟨k, hk⟩ := hi j v e
        rw [hk]
        rfl
  have hit0 : IsSetIt w (H0.push { cls := .type "set_iterator", data := .fields #[rawInt (slotA w l 0 : Nat), rawInt ((0 : Nat) : Int), .ref S, rawInt (l.length : Nat), rawInt (ep : Nat)] }) I S l ep 0 := by
    rw [← hI]; exact Heap.get?_push_size _ rfl
  have hD1 := Heap.get?_push_of_some { cls := .type "set_iterator", data := .fields #[rawInt (slotA w l 0 : Nat), rawInt ((0 : Nat) : Int), .ref S, rawInt (l.length : Nat), rawInt (ep : Nat)] } hDl
  refine wpAny_bind (wpAny_holding (hint_set (s := { s with heap := H0.push { cls := .type "set_iterator", data := .fields #[rawInt (slotA w l 0 : Nat), rawInt ((0 : Nat) : Int), .ref S, rawInt (l.length : Nat), rawInt (ep : Nat)] } }) hl (Heap.get?_push_of_some _ ho') hex hd fun bb => ?_))
  have DI : D ≠ I := Nat.ne_of_lt (by omega)
  refine wpAny_ite_split (fun _ => ?_) (fun _ => wpAny_pure ⟨plainId_quiet PySem.F.plain_extend_loop _, key _ 0 _ hit0 (Heap.get?_push_of_some _ ho') (fun b ob _ e => Heap.get?_push_of_some _ e) hD1⟩)
  refine wpAny_bind (wpAny_rule ?_)
  refine wpAny_bind ?_
  show wpAny _ _ (updateSeq D (·.push .none) >>= fun _ => updateSeq D (·.pop)) _ _ _
  refine wpAny_bind (wpAny_updateSeq hD1 rfl ?_)
  have hS₂ := Heap.get?_update_self (Obj.mapSeq (·.push Value.none)) hD1 rfl
  refine wpAny_updateSeq (hz := by seq_fits) hS₂ rfl ?_
  have hS₃ := Heap.get?_update_self (Obj.mapSeq (·.pop)) hS₂ rfl
  refine wpAny_pure ⟨plainId_quiet PySem.F.plain_extend_loop _, key _ _ _ ?_ ?_ (fun b ob hb e => ?_) hS₃⟩
  · exact (Heap.get?_update_other _ _ DI).trans ((Heap.get?_update_other _ _ DI).trans hit0)
  · exact (Heap.get?_update_other _ _ (Nat.ne_of_gt hSD)).trans ((Heap.get?_update_other _ _ (Nat.ne_of_gt hSD)).trans (Heap.get?_push_of_some _ ho'))
  · exact (Heap.get?_update_other _ _ (Ne.symm hb)).trans ((Heap.get?_update_other _ _ (Ne.symm hb)).trans (Heap.get?_push_of_some _ e))
end
end L2
set_option Elab.async false
set_option linter.all false
set_option maxRecDepth 100000
namespace L2
open PySem PySem.Spec PyProof.Rows
theorem pick1 {α : Type} (next : Nat → Nat) (e : α) : pickOrder next #[e] = #[e] := by
  unfold pickOrder
  simp [pickOrder.go, Nat.mod_one]
theorem pick2 {α : Type} (next : Nat → Nat) (e f : α) : pickOrder next #[e, f] = #[e, f] ∨ pickOrder next #[e, f] = #[f, e] := by
  unfold pickOrder
  have h : next 0 % 2 = 0 ∨ next 0 % 2 = 1 := by omega
  rcases h with h | h
  · left; simp [pickOrder.go, h, Nat.mod_one]
  · right; simp [pickOrder.go, h, Nat.mod_one]
theorem ordE_cases {w : World} {S : Addr} {ep : Nat} {l : List (Nat × Tok)} (hl : Okl l) : ordE w S ep l = elts l ∨ ordE w S ep l = elts l.reverse := by
  unfold ordE
  by_cases hb : w.params.followText "set-order" = true
  · rw [if_pos hb]
    rcases hl with ⟨p, rfl, _⟩ | ⟨p, q, rfl, _⟩
    · exact .inl (pick1 _ _)
    · exact pick2 _ _ _
  · rw [if_neg hb]; exact .inl rfl
theorem ordE_size {w : World} {S : Addr} {ep : Nat} {l : List (Nat × Tok)} (hl : Okl l) : (ordE w S ep l).size = l.length := by
  rcases ordE_cases (w := w) (S := S) (ep := ep) hl with e | e
  · rw [e]; unfold elts; rw [List.size_toArray, List.length_map]
  · rw [e]; unfold elts; rw [List.size_toArray, List.length_map, List.length_reverse]
theorem ints_elts (l : List (Nat × Tok)) : IntsAre ((elts l).toList.map (·.2)) (l.map fun p => (p.1 : Int)) := by
  unfold elts
  rw [List.toList_toArray, List.map_map]
  induction l with
  | nil => exact .nil
  | cons p l ih => exact .cons _ p.2 ih
theorem ints_ord {w : World} {S : Addr} {ep : Nat} {l : List (Nat × Tok)} (hl : Okl l) : ∃ ns, IntsAre ((ordE w S ep l).toList.map (·.2)) ns ∧ ns.Perm (l.map fun p => (p.1 : Int)) := by
  rcases ordE_cases (w := w) (S := S) (ep := ep) hl with e | e
  · rw [e]; exact ⟨_, ints_elts l, List.Perm.refl _⟩
  · rw [e]; exact ⟨_, ints_elts l.reverse, by rw [List.map_reverse]; exact List.reverse_perm _⟩
def twoS (a b : Nat) : List Int := if a = b then [(a : Int)] else if a < b then [(a : Int), (b : Int)] else [(b : Int), (a : Int)]
theorem two_vals (a b : Nat) (t u : Tok) : (two a b t u).map (fun p => (p.1 : Int)) = twoS a b := by
  unfold two twoS
  split
  · rfl
  · split <;> rfl
theorem twoS_sorted (a b : Nat) : (twoS a b).Pairwise (· ≤ ·) := by
  unfold twoS
  split
  · exact List.pairwise_singleton _ _
  · split
    · refine List.pairwise_cons.mpr ⟨fun x hx => ?_, List.pairwise_singleton _ _⟩
      rw [List.mem_singleton.mp hx]; omega
    · refine List.pairwise_cons.mpr ⟨fun x hx => ?_, List.pairwise_singleton _ _⟩
      rw [List.mem_singleton.mp hx]; omega
theorem twoS_length (a b : Nat) : (twoS a b).length ≤ 2 := by
  unfold twoS
  split
  · simp
  · split <;> simp
def SetO (w : World) (p : Addr) (a b : Nat) : HO := .ext fun h => ∃ t u, SX (Led w) h p (two a b t u)
section
variable {X : Cx}
theorem call_set2 (hc : X.calm = true) : CallR X (.type "set") (fun xs H Q => ∃ (l : Addr) (a b : Nat), xs = [.ref l] ∧ SqL X.K H l [.int (a : Int), .int (b : Int)] ∧ a < 8 ∧ b < 8 ∧ ∀ p, H p = none → Q (.ref p) (upd H p (SetO X.w p a b))) := by
  intro pins s σ H xs us Q I r h
  obtain ⟨l, a, b, rfl, hL, ha, hb, q⟩ := h
  obtain ⟨u, rfl, rx⟩ := vals1 r
  cases rx
  obtain ⟨its, rv, pl, hz⟩ := I.list hL
  obtain ⟨u1, u2, rfl, ⟨t1, rfl⟩, ⟨t2, rfl⟩⟩ := vals2 rv
  refine call_set_two (I.ok.hd hc) pl.isList ha hb fun h' tk x kp => ?_
  have kp' : ∀ b o, s.heap.get? b = some o → h'.get? b = some o := fun b o e => kp b o (Heap.lt_size e) e
  have hf := I.hok.fresh (Nat.le_refl s.heap.objs.size)
  refine ⟨.ref s.heap.objs.size, _, I.laid (t' := tk) kp' (Nat.le_refl _) ?_, rfl, q _ hf⟩
  refine ⟨⟨t1, t2, x⟩, ?_, fun h1 h2 ⟨t, u, y⟩ k => ⟨t, u, y.keep k⟩⟩
  obtain ⟨o, ep, e, _⟩ := x
  exact ⟨o, e⟩
theorem call_sorted_set (hc : X.calm = true) : CallR X (.builtin "sorted") (fun xs H Q => ∃ (p : Addr) (a b : Nat), xs = [.ref p] ∧ H p = some (SetO X.w p a b) ∧ a < 8 ∧ b < 8 ∧ ∀ q, H q = none → Q (.ref q) (upd H q (.lst ((twoS a b).map V.int)))) := by
  intro pins s σ H xs us Q I r h
  obtain ⟨p, a, b, rfl, hp, ha, hb, q⟩ := h
  obtain ⟨u, rfl, rx⟩ := vals1 r
  cases rx
  obtain ⟨⟨t, u, o, ep, ho, hex, hd⟩, _, _⟩ := I.hok p _ hp
  have hl : Okl (two a b t u) := two_ok ha hb
  obtain ⟨ns, hi, hperm⟩ := ints_ord (w := X.w) (S := p) (ep := ep) hl
  have hlen : ns.length ≤ 2 := by rw [hperm.length_eq, two_vals]; exact twoS_length a b
  refine sorted_of (ns := ns) (by omega) (fun Q' hQ' => ?_) fun h1 h' tk out ns' k1 k2 pl hi' hp' ho' => ?_
  · exact collect_set (A := X.A.in1) (I.ok.hd hc) hl ho hex hd (ordE_size hl) fun h' tk vs kp e => hQ' h' tk vs kp (by rw [e]; exact hi)
  · have I1 : Inv X pins σ H { s with heap := h1, toks := tk } := I.kept k1
    have hf := I1.hok.fresh (Nat.le_refl _)
    have en : ns' = twoS a b := PySem.W.ksm_same (hp'.trans (by rw [← two_vals a b t u]; exact hperm)) ho' (twoS_sorted a b)
    subst en
    have hl2 := twoS_length a b
    obtain ⟨n, e⟩ := pl
    have I2 : Inv X pins σ (upd H h1.objs.size (.lst ((twoS a b).map V.int))) { s with heap := h', toks := tk } :=
      I1.laid (t' := tk) k2 (Nat.le_refl _) (show ObjOk X.prog X.w _ _ _ (.lst _) from ⟨by rw [List.length_map, sizeLine_eq]; omega, out.toList, n, vals_ints hi', by simpa using e⟩)
    exact ⟨.ref h1.objs.size, _, I2, rfl, q _ hf⟩
end
end L2
set_option Elab.async false
set_option linter.all false
set_option maxRecDepth 100000
namespace L2
open PySem PySem.Spec PyProof.Rows

structure Sub (prog : Program) (w : World) (i l : Addr) (n : Nat) (P : Nat → Value → Prop) (st : Nat → Heap → Prop) : Prop where
  keep : ∀ k h h', st k h → (∀ b, b = i ∨ b = l → ∀ o, h.get? b = some o → h'.get? b = some o) → st k h'
  obj : ∀ k h, st k h → (∃ o, h.get? i = some o ∧ ∀ v, o.data ≠ .cell v) ∧ ∃ o, h.get? l = some o
  item : ∀ (A : Around) k (s : Shared) (Q : Value → Shared → Prop) (E : Value → Shared → Prop), k < n → st k s.heap → (∀ v h', P k v → st (k + 1) h' → Heap.SameBut i s.heap h' → Q v { s with heap := h' }) → wpAny (model prog w) A (Builtin.SmallTypes.nextOf (.ref i)) Q E s
  done : ∀ (A : Around) (s : Shared) (Q : Value → Shared → Prop) (E : Value → Shared → Prop), A.handled = none → st n s.heap → (∀ h' e, Heap.ExtBut i s.heap h' → (∃ o, h'.get? e = some o ∧ o.cls = .type "StopIteration") → E (.ref e) { s with heap := h' }) →
    wpAny (model prog w) A (Builtin.SmallTypes.nextOf (.ref i)) Q E s
theorem sub_list (prog : Program) (w : World) (i l : Addr) (items : Array Value) (hne : l ≠ i) : Sub prog w i l items.size (fun k v => items[k]? = some v) (fun k h => h.IsListIter i l k ∧ h.IsList l items) where
  keep := fun k h h' st kp => ⟨st.1.at fun o e => kp i (.inl rfl) o e, st.2.at fun o e => kp l (.inr rfl) o e⟩
  obj := fun k h st => by
    obtain ⟨⟨o, e, _, d⟩, ⟨o2, e2, _⟩⟩ := st
    exact ⟨⟨o, e, fun v z => by rw [d] at z; cases z⟩, o2, e2⟩
  item := fun A k s Q E hk st hQ => wpAny_nextOf_list_item st.1 st.2 (Array.getElem?_eq_getElem hk) fun h' a b => hQ _ h' (Array.getElem?_eq_getElem hk) ⟨a, st.2.at fun o e => b.extBut l o hne e⟩ b
  done := fun A s Q E hh st hE => wpAny_nextOf_list_end hh st.1 st.2 (Array.getElem?_eq_none (Nat.le_refl _)) hE
theorem nextOf_tuple_item {prog : Program} {w : World} {A : Around} {E : Value → Shared → Prop} {s : Shared} {it t : Addr} {i : Nat} {items : Array Value} {x : Value} {Q : Value → Shared → Prop} (hit : s.heap.IsTupleIter it t i) (ht : s.heap.IsTuple t items) (hx : items[i]? = some x)
    (hQ : ∀ h', h'.IsTupleIter it t (i + 1) → Heap.SameBut it s.heap h' → Q x { s with heap := h' }) : wpAny (model prog w) A (Builtin.SmallTypes.nextOf (.ref it)) Q E s := by
  obtain ⟨o, ho, hc, hd⟩ := id hit
  obtain ⟨ol, hol, _, nl, hdl⟩ := ht
  have hT := hit.typeIs
  unfold Builtin.SmallTypes.nextOf
  refine wpAny_bind (wpAny_callSpecial?_slot (name := Str.ofString "__next__") hT PySem.F.slot_tuple_iterator_next (wpAny_call_entry PySem.F.slot_tuple_iterator_next hT PySem.F.entry_tuple_iterator_next ?_ (PySem.F.args_tuple_iterator_next_1 _)))
  refine wpAny_bind (m := field (.ref it) 0) (wpAny_field ho hd (x := .ref t) rfl ?_)
  have hno : ¬ ((Value.ref t == Value.none) = true) := Bool.false_ne_true
  show wpAny _ _ (if (Value.ref t == Value.none) = true then _ else _) _ _ s
  rw [if_neg hno]
  refine wpAny_bind (m := field (.ref it) 1) (wpAny_field ho hd (x := .int i 0) rfl ?_)
  refine wpAny_bind (m := seqItems? (.ref t)) (wpAny_seqItems hol hdl ?_)
  simp only [Int.toNat_natCast, hx]
  refine wpAny_bind (wpAny_setField ho hd (by simp) (wpAny_pure ⟨x, rfl, wpAny_pure (hQ _ ?_ (Heap.SameBut.update ..))⟩))
  refine ⟨_, Heap.get?_update_self _ ho (Obj.isFreed_of_fields (Obj.data_mapFields hd _)), (Obj.cls_mapFields ..).trans hc, ?_⟩
  rw [Obj.data_mapFields hd]
  simp [rawInt]
theorem nextOf_tuple_end {prog : Program} {w : World} {A : Around} {E : Value → Shared → Prop} {s : Shared} {it t : Addr} {i : Nat} {items : Array Value} {Q : Value → Shared → Prop} (hh : A.handled = none) (hit : s.heap.IsTupleIter it t i) (ht : s.heap.IsTuple t items) (hx : items[i]? = none)
    (hE : ∀ h' e, Heap.ExtBut it s.heap h' → (∃ o, h'.get? e = some o ∧ o.cls = .type "StopIteration") → E (.ref e) { s with heap := h' }) : wpAny (model prog w) A (Builtin.SmallTypes.nextOf (.ref it)) Q E s := by
  obtain ⟨o, ho, hc, hd⟩ := id hit
  obtain ⟨ol, hol, _, nl, hdl⟩ := ht
  have hT := hit.typeIs
  unfold Builtin.SmallTypes.nextOf
  refine wpAny_bind (wpAny_callSpecial?_slot (name := Str.ofString "__next__") hT PySem.F.slot_tuple_iterator_next (wpAny_call_entry PySem.F.slot_tuple_iterator_next hT PySem.F.entry_tuple_iterator_next ?_ (PySem.F.args_tuple_iterator_next_1 _)))
  refine wpAny_bind (m := field (.ref it) 0) (wpAny_field ho hd (x := .ref t) rfl ?_)
  have hno : ¬ ((Value.ref t == Value.none) = true) := Bool.false_ne_true
  show wpAny _ _ (if (Value.ref t == Value.none) = true then _ else _) _ _ s
  rw [if_neg hno]
  refine wpAny_bind (m := field (.ref it) 1) (wpAny_field ho hd (x := .int i 0) rfl ?_)
  refine wpAny_bind (m := seqItems? (.ref t)) (wpAny_seqItems hol hdl ?_)
  simp only [Int.toNat_natCast, hx]
  refine wpAny_bind (wpAny_rule (wpAny_bind (wpAny_setField ho hd (by simp) ?_)))
  refine wpAny_bind (m := newExc (.type "StopIteration") []) ?_
  simp only [newExc, newTuple]
  refine wpAny_bind (wpAny_newObj_type ?_ (by size_fits))
  refine wpAny_bind (m := firstArgMember _ _) (wpAny_of_eq (a := Value.none) (by first | rfl | (simp only [firstArgMember]; rfl)) ?_)
  refine wpAny_newObj_type ?_ (by size_fits)
  simp only [raiseNew]
  refine wpAny_bind (wpAny_handled ?_)
  first | rw [show A.in1.handled = none from hh] | rw [hh]
  refine wpAny_bind (wpAny_pure (wpAny_throw ?_))
  exact hE _ _ (((Heap.SameBut.update ..).extBut.push _).push _) ⟨_, Heap.get?_push_size _ rfl, rfl⟩
theorem sub_tuple (prog : Program) (w : World) (i l : Addr) (items : Array Value) (hne : l ≠ i) : Sub prog w i l items.size (fun k v => items[k]? = some v) (fun k h => h.IsTupleIter i l k ∧ h.IsTuple l items) where
  keep := fun k h h' st kp => ⟨st.1.at fun o e => kp i (.inl rfl) o e, by obtain ⟨o, e, r⟩ := st.2; exact ⟨o, kp l (.inr rfl) o e, r⟩⟩
  obj := fun k h st => by
    obtain ⟨⟨o, e, _, d⟩, ⟨o2, e2, _⟩⟩ := st
    exact ⟨⟨o, e, fun v z => by rw [d] at z; cases z⟩, o2, e2⟩
  item := fun A k s Q E hk st hQ => nextOf_tuple_item st.1 st.2 (Array.getElem?_eq_getElem hk) fun h' a b => hQ _ h' (Array.getElem?_eq_getElem hk) ⟨a, by obtain ⟨o, e, r⟩ := st.2; exact ⟨o, b.extBut l o hne e, r⟩⟩ b
  done := fun A s Q E hh st hE => nextOf_tuple_end hh st.1 st.2 (Array.getElem?_eq_none (Nat.le_refl _)) hE

section
variable {prog : Program} {w : World} {A : Around} {E : Value → Shared → Prop} {s : Shared} {z TI TO i1 i2 l1 l2 : Addr} {n1 n2 : Nat} {P1 P2 : Nat → Value → Prop} {st1 st2 : Nat → Heap → Prop}
theorem zipItem {k : Nat} {a b : Value} {Q : Value → Shared → Prop} (D : ZipApart z TI TO i1 i2 l1 l2) (S1 : Sub prog w i1 l1 n1 P1 st1) (S2 : Sub prog w i2 l2 n2 P2 st2)
    (hz : IsZip s.heap z TI TO .none) (hTI : IsPair s.heap TI (.ref i1) (.ref i2)) (hTO : IsPair s.heap TO a b) (h1 : st1 k s.heap) (h2 : st2 k s.heap) (k1 : k < n1) (k2 : k < n2)
    (hQ : ∀ h' x y, P1 k x → P2 k y → IsZip h' z TI TO (rawInt s.heap.objs.size) → IsPair h' TO x y → st1 (k + 1) h' → st2 (k + 1) h' → IsPair h' s.heap.objs.size x y →
      (∀ c o, c ≠ z → c ≠ TO → c ≠ i1 → c ≠ i2 → s.heap.get? c = some o → h'.get? c = some o) → Q (.ref s.heap.objs.size) { s with heap := h' }) :
    wpAny (model prog w) A (Builtin.«zip.__next__» ⟨[.ref z], []⟩) (fun fin s' => ∃ v, fin = .done (.ret v) ∧ Q v s') E s := by
  refine wpAny_bind (m := field (.ref z) 2) (wpAny_field hz rfl (x := .bool false) rfl ?_)
  refine wpAny_bind (m := field (.ref z) 3) (wpAny_field hz rfl (x := .ref TI) rfl ?_)
  refine wpAny_bind (wpAny_seqItems hTI rfl ?_)
  refine wpAny_bind (m := Builtin.SmallTypes.ownedTupleIsFree (.ref z)) ?_
  unfold Builtin.SmallTypes.ownedTupleIsFree
  refine wpAny_bind (wpAny_field hz rfl (x := .none) rfl (wpAny_pure ?_))
  simp only [if_true]
  refine wpAny_bind (wpAny_rule ?_)
  refine wpAny_bind (wpAny_field hz rfl (x := .ref TO) rfl ?_)
  refine wpAny_bind (wpAny_setField_rec hz (by simp) fun g1 hz1 b1 => ?_)
  have hz1' : IsZip g1 z TI TO .ellipsis := hz1
  refine wpAny_bind ?_
  simp only [List.zipIdx_cons, List.zipIdx_nil, List.forIn_cons, List.forIn_nil]
  -- the first one
  have s1 : st1 k g1 := S1.keep _ _ _ h1 fun c hc o e => b1.extBut c o (by rcases hc with r | r <;> rw [r]; exact D.i1z; exact D.l1z) e
  refine wpAny_bind (wpAny_bind (wpAny_onRaise ?_))
  refine wpAny_bind (m := Builtin.SmallTypes.nextOf (.ref i1)) (S1.item _ k _ _ _ k1 s1 fun x g2 px t1 b2 => wpAny_pure ?_)
  have o2 : IsPair g2 TO a b := b2.extBut _ _ D.TOi1 (b1.extBut _ _ D.TOz hTO)
  refine wpAny_bind (wpAny_seqItems o2 rfl ?_)
  refine wpAny_bind (wpAny_updateSeq_pair o2 fun g3 o3 b3 => ?_)
  have o3' : IsPair g3 TO x b := o3
  refine wpAny_bind (wpAny_letGo (wpAny_pure ?_))
  -- the second one
  have s2 : st2 k g3 := S2.keep _ _ _ h2 fun c hc o e => by
    rcases hc with r | r
    · rw [r] at e ⊢; exact b3.extBut _ _ D.TOi2.symm (b2.extBut _ _ D.i12.symm (b1.extBut _ _ D.i2z e))
    · rw [r] at e ⊢; exact b3.extBut _ _ D.l2TO (b2.extBut _ _ D.l2i1 (b1.extBut _ _ D.l2z e))
  refine wpAny_bind (wpAny_bind (wpAny_onRaise ?_))
  refine wpAny_bind (m := Builtin.SmallTypes.nextOf (.ref i2)) (S2.item _ k _ _ _ k2 s2 fun y g4 py t2 b4 => wpAny_pure ?_)
  have o4 : IsPair g4 TO x b := b4.extBut _ _ D.TOi2 o3'
  refine wpAny_bind (wpAny_seqItems o4 rfl ?_)
  refine wpAny_bind (wpAny_updateSeq_pair o4 fun g5 o5 b5 => ?_)
  have o5' : IsPair g5 TO x y := o5
  refine wpAny_bind (wpAny_letGo (wpAny_pure (wpAny_pure ?_)))
  refine wpAny_bind (wpAny_seqItems o5' rfl ?_)
  refine wpAny_bind (wpAny_newTuple ?_)
  have sz : g5.objs.size = s.heap.objs.size := by rw [b5.1, b4.1, b3.1, b2.1, b1.1]
  have z5 : IsZip g5 z TI TO .ellipsis := b5.extBut _ _ D.TOz.symm (b4.extBut _ _ D.i2z.symm (b3.extBut _ _ D.TOz.symm (b2.extBut _ _ D.i1z.symm hz1')))
  have kp5 : ∀ c o, c ≠ z → c ≠ TO → c ≠ i1 → c ≠ i2 → s.heap.get? c = some o → g5.get? c = some o := fun c o c1 c2 c3 c4 e =>
    b5.extBut _ _ c2 (b4.extBut _ _ c4 (b3.extBut _ _ c2 (b2.extBut _ _ c3 (b1.extBut _ _ c1 e))))
  have t1' : st1 (k + 1) g5 := S1.keep _ _ _ t1 fun c hc o e => by
    rcases hc with r | r
    · rw [r] at e ⊢; exact b5.extBut _ _ D.TOi1.symm (b4.extBut _ _ D.i12 (b3.extBut _ _ D.TOi1.symm e))
    · rw [r] at e ⊢; exact b5.extBut _ _ D.l1TO (b4.extBut _ _ D.l1i2 (b3.extBut _ _ D.l1TO e))
  have t2' : st2 (k + 1) g5 := S2.keep _ _ _ t2 fun c hc o e => by
    rcases hc with r | r
    · rw [r] at e ⊢; exact b5.extBut _ _ D.TOi2.symm e
    · rw [r] at e ⊢; exact b5.extBut _ _ D.l2TO e
  have zlt : g5.objs.size ≠ z := Nat.ne_of_gt (Heap.lt_size z5)
  refine wpAny_bind (m := Builtin.SmallTypes.ownedTupleHandOut (.ref z) (.ref g5.objs.size)) ?_
  unfold Builtin.SmallTypes.ownedTupleHandOut
  have z6 : IsZip (g5.push { cls := .type "tuple", data := .seq #[x, y] }) z TI TO .ellipsis := Heap.get?_push_of_some _ z5
  refine wpAny_bind (wpAny_setField_rec z6 (by simp) fun g7 z7 b7 => ?_)
  have z7' : IsZip g7 z TI TO (rawInt g5.objs.size) := z7
  refine wpAny_setField_rec z7' (by simp) fun g8 z8 b8 => ?_
  have z8' : IsZip g8 z TI TO (rawInt g5.objs.size) := z8
  have up : ∀ c o, c ≠ z → g5.get? c = some o → g8.get? c = some o := fun c o c1 e => b8.extBut _ _ c1 (b7.extBut _ _ c1 (Heap.get?_push_of_some _ e))
  have T8 : IsPair g8 g5.objs.size x y := b8.extBut _ _ zlt (b7.extBut _ _ zlt (Heap.get?_push_size _ rfl))
  rw [sz] at z8' T8
  refine wpAny_pure ⟨_, rfl, ?_⟩
  show Q (.ref g5.objs.size) _
  rw [sz]
  refine hQ g8 x y px py z8' (up _ _ D.TOz o5') (S1.keep _ _ _ t1' fun c hc o e => up c o (by rcases hc with r | r <;> rw [r]; exact D.i1z; exact D.l1z) e) (S2.keep _ _ _ t2' fun c hc o e => up c o (by rcases hc with r | r <;> rw [r]; exact D.i2z; exact D.l2z) e) T8 fun c o c1 c2 c3 c4 e => up c o c1 (kp5 c o c1 c2 c3 c4 e)
theorem zipEnd {k : Nat} {a b : Value} {Q : Fin → Shared → Prop} (hh : A.handled = none) (D : ZipApart z TI TO i1 i2 l1 l2) (S1 : Sub prog w i1 l1 n1 P1 st1) (S2 : Sub prog w i2 l2 n2 P2 st2)
    (hz : IsZip s.heap z TI TO .none) (hTI : IsPair s.heap TI (.ref i1) (.ref i2)) (hTO : IsPair s.heap TO a b) (h1 : st1 k s.heap) (h2 : st2 k s.heap) (hend : k = n1 ∧ k ≤ n2 ∨ k = n2 ∧ k < n1)
    (hE : ∀ h' e, (∀ c o, c ≠ z → c ≠ TO → c ≠ i1 → c ≠ i2 → s.heap.get? c = some o → h'.get? c = some o) → (∃ o, h'.get? e = some o ∧ o.cls = .type "StopIteration") → E (.ref e) { s with heap := h' }) :
    wpAny (model prog w) A (Builtin.«zip.__next__» ⟨[.ref z], []⟩) Q E s := by
  refine wpAny_bind (m := field (.ref z) 2) (wpAny_field hz rfl (x := .bool false) rfl ?_)
  refine wpAny_bind (m := field (.ref z) 3) (wpAny_field hz rfl (x := .ref TI) rfl ?_)
  refine wpAny_bind (wpAny_seqItems hTI rfl ?_)
  refine wpAny_bind (m := Builtin.SmallTypes.ownedTupleIsFree (.ref z)) ?_
  unfold Builtin.SmallTypes.ownedTupleIsFree
  refine wpAny_bind (wpAny_field hz rfl (x := .none) rfl (wpAny_pure ?_))
  simp only [if_true]
  refine wpAny_bind (wpAny_rule ?_)
  refine wpAny_bind (wpAny_field hz rfl (x := .ref TO) rfl ?_)
  refine wpAny_bind (wpAny_setField_rec hz (by simp) fun g1 hz1 b1 => ?_)
  have hz1' : IsZip g1 z TI TO .ellipsis := hz1
  refine wpAny_bind ?_
  simp only [List.zipIdx_cons, List.zipIdx_nil, List.forIn_cons, List.forIn_nil]
  have s1 : st1 k g1 := S1.keep _ _ _ h1 fun c hc o e => b1.extBut c o (by rcases hc with r | r <;> rw [r]; exact D.i1z; exact D.l1z) e
  refine wpAny_bind (wpAny_bind (wpAny_onRaise ?_))
  have fin : ∀ (g : Heap) (e : Addr) (g0 : Heap), (∃ o, g.get? e = some o ∧ o.cls = .type "StopIteration") → IsZip g z TI TO .ellipsis → (∀ c o, c ≠ z → c ≠ TO → c ≠ i1 → c ≠ i2 → s.heap.get? c = some o → g.get? c = some o) →
      wpAny (model prog w) A (setField (.ref z) 0 .none) (fun _ s' => E (.ref e) s') E { s with heap := g } := fun g e g0 ⟨oe, hoe, hce⟩ hzz kp => by
    have hez : e ≠ z := fun q => by rw [q, hzz] at hoe; cases hoe; simp at hce
    exact wpAny_setField_rec hzz (by simp) fun g' _ b' => hE g' e (fun c o c1 c2 c3 c4 q => b'.extBut _ _ c1 (kp c o c1 c2 c3 c4 q)) ⟨oe, b'.extBut _ _ hez hoe, hce⟩
  rcases hend with ⟨e1, _⟩ | ⟨e2, k1⟩
  · rw [e1] at s1
    refine wpAny_bind (m := Builtin.SmallTypes.nextOf (.ref i1)) (S1.done _ _ _ _ hh s1 fun g2 e b2 he => ?_)
    exact fin g2 e g1 he (b2 _ _ D.i1z.symm hz1') fun c o c1 _ c3 _ q => b2 _ _ c3 (b1.extBut _ _ c1 q)
  · refine wpAny_bind (m := Builtin.SmallTypes.nextOf (.ref i1)) (S1.item _ k _ _ _ k1 s1 fun x g2 px t1 b2 => wpAny_pure ?_)
    have o2 : IsPair g2 TO a b := b2.extBut _ _ D.TOi1 (b1.extBut _ _ D.TOz hTO)
    refine wpAny_bind (wpAny_seqItems o2 rfl ?_)
    refine wpAny_bind (wpAny_updateSeq_pair o2 fun g3 o3 b3 => ?_)
    refine wpAny_bind (wpAny_letGo (wpAny_pure ?_))
    have s2 : st2 n2 g3 := by
      rw [← e2]
      exact S2.keep _ _ _ h2 fun c hc o e => by
        rcases hc with r | r
        · rw [r] at e ⊢; exact b3.extBut _ _ D.TOi2.symm (b2.extBut _ _ D.i12.symm (b1.extBut _ _ D.i2z e))
        · rw [r] at e ⊢; exact b3.extBut _ _ D.l2TO (b2.extBut _ _ D.l2i1 (b1.extBut _ _ D.l2z e))
    refine wpAny_bind (wpAny_bind (wpAny_onRaise ?_))
    refine wpAny_bind (m := Builtin.SmallTypes.nextOf (.ref i2)) (S2.done _ _ _ _ hh s2 fun g4 e b4 he => ?_)
    exact fin g4 e g3 he (b4 _ _ D.i2z.symm (b3.extBut _ _ D.TOz.symm (b2.extBut _ _ D.i1z.symm hz1'))) fun c o c1 c2 c3 c4 q => b4 _ _ c4 (b3.extBut _ _ c2 (b2.extBut _ _ c3 (b1.extBut _ _ c1 q)))
end
end L2
set_option Elab.async false
set_option linter.all false
set_option maxRecDepth 100000
namespace L2
open PySem PySem.Spec PyProof.Rows
inductive Sk where
  | l | t
def SqK (k : Sk) (K : PySem.W.Frag) (H : Hp) (a : Addr) (xs : List V) : Prop := match k with | .l => SqL K H a xs | .t => SqT K H a xs
def AtK (k : Sk) (h : Heap) (a : Addr) (its : Array Value) : Prop := match k with | .l => h.IsList a its | .t => h.IsTuple a its
def ItK (k : Sk) (h : Heap) (i a : Addr) (n : Nat) : Prop := match k with | .l => h.IsListIter i a n | .t => h.IsTupleIter i a n
def itK (k : Sk) (a : Addr) : Obj := match k with | .l => { cls := .type "list_iterator", data := .fields #[.ref a, .int 0 0] } | .t => { cls := .type "tuple_iterator", data := .fields #[.ref a, .int 0 0] }
theorem ItK.new (k : Sk) (h : Heap) (a : Addr) : ItK k (h.push (itK k a)) h.objs.size a 0 := by
  cases k
  · exact ⟨_, Heap.get?_push_size _ rfl, rfl, rfl⟩
  · exact ⟨_, Heap.get?_push_size _ rfl, rfl, rfl⟩
theorem ItK.obj {k : Sk} {h : Heap} {i a : Addr} {n : Nat} (x : ItK k h i a n) : ∃ o, h.get? i = some o ∧ ∀ v, o.data ≠ .cell v := by
  cases k
  · obtain ⟨o, e, _, d⟩ := x; exact ⟨o, e, fun v z => by rw [d] at z; cases z⟩
  · obtain ⟨o, e, _, d⟩ := x; exact ⟨o, e, fun v z => by rw [d] at z; cases z⟩
theorem ItK.at {k : Sk} {h h' : Heap} {i a : Addr} {n : Nat} (x : ItK k h i a n) (kp : ∀ o, h.get? i = some o → h'.get? i = some o) : ItK k h' i a n := by
  cases k
  · exact Heap.IsListIter.at x kp
  · exact Heap.IsTupleIter.at x kp
theorem AtK.at {k : Sk} {h h' : Heap} {a : Addr} {its : Array Value} (x : AtK k h a its) (kp : ∀ o, h.get? a = some o → h'.get? a = some o) : AtK k h' a its := by
  cases k
  · exact Heap.IsList.at x kp
  · obtain ⟨o, e, r⟩ := x; exact ⟨o, kp o e, r⟩
theorem subK (k : Sk) (prog : Program) (w : World) (i l : Addr) (items : Array Value) (hne : l ≠ i) : Sub prog w i l items.size (fun j v => items[j]? = some v) (fun j h => ItK k h i l j ∧ AtK k h l items) := by
  cases k
  · exact sub_list prog w i l items hne
  · exact sub_tuple prog w i l items hne
theorem iterK {prog : Program} {w : World} {A : Around} {E : Value → Shared → Prop} {s : Shared} {k : Sk} {a : Addr} {its : Array Value} {Q : Value → Shared → Prop} (h : AtK k s.heap a its) (hQ : Q (.ref s.heap.objs.size) { s with heap := s.heap.push (itK k a) }) : wpAny (model prog w) A (pyIter (.ref a)) Q E s := by
  cases k
  · exact wpAny_pyIter_list h hQ
  · exact wpAny_pyIter_tuple h hQ
section
variable {X : Cx} {pins : List (Addr × Obj)} {σ : St} {H : Hp} {s : Shared}
theorem Inv.seqK (I : Inv X pins σ H s) {k : Sk} {a : Addr} {xs : List V} (h : SqK k X.K H a xs) : ∃ its : List Value, Vals xs its ∧ AtK k s.heap a its.toArray := by
  cases k
  · obtain ⟨its, r, p, _⟩ := I.list h; exact ⟨its, r, p.isList⟩
  · obtain ⟨its, r, p, _⟩ := I.tuple h; exact ⟨its, r, p⟩
theorem Inv.seqK_inj (I : Inv X pins σ H s) {k : Sk} {a : Addr} {xs ys : List V} (h : SqK k X.K H a xs) (h' : SqK k X.K H a ys) : xs = ys := by
  cases k
  · exact I.list_inj h h'
  · exact I.tuple_inj h h'
theorem Inv.seq_ne (I : Inv X pins σ H s) {k : Sk} {a b : Addr} {xs : List V} (h : SqK k X.K H a xs) (f : FpOk X pins H b) : a ≠ b := by
  have rd : ∀ {u : HO}, Rd H a u → a ≠ b := fun {u} r z => by
    rcases r with r | ⟨o, r⟩ <;> (rw [z, f.1] at r; cases r)
  have kk : ∀ {o : Obj}, X.K.lookup a = some o → a ≠ b := fun {o} e z => by
    have e1 := I.ok.mod.kin a o e
    rcases f.2.2.2.1 with q | q
    · exact I.ok.noex a o e1 (z ▸ q)
    · exact Nat.lt_irrefl _ (Nat.lt_of_lt_of_le (Heap.lt_size (I.ok.bs a o e1).1) (z ▸ q))
  cases k
  · rcases h with h | ⟨o, _, _, e, _⟩
    · exact rd h
    · exact kk e
  · rcases h with h | ⟨o, _, _, e, _⟩
    · exact rd h
    · exact kk e
theorem Inv.turnedL {h' : Heap} {t' : Nat} (ch : List Addr) (I : Inv X pins σ H s) (k : ∀ b o, b ∉ ch → s.heap.get? b = some o → h'.get? b = some o) (f : ∀ b ∈ ch, FpOk X pins H b) : Inv X pins σ H { s with heap := h', toks := t' } := by
  have nit : ∀ b u, H b = some u → b ∉ ch := fun b u e z => by rw [(f b z).1] at e; cases e
  have nL : X.env.locals ∉ ch := fun z => (f _ z).2.1 rfl
  refine I.step (g' := s.gens) (d' := s.drawn) (ch := ch) (fun b hb => ⟨(f b hb).2.2.2.1, (f b hb).2.1, (f b hb).2.2.2.2.1, (f b hb).2.2.2.2.2⟩) (fun b o _ _ hc e _ => k b o hc e) (fun b o _ _ hc e _ => ⟨o.slots, k b o hc e⟩) (fun _ _ _ _ n => n)
    (fun b o hc e => ⟨o, k b o hc e⟩) (fun _ _ e => e) (fun _ _ _ e => e) (fun b ps e => ⟨#[], by rw [e]; simp⟩) (fun m hm => ?_) (fun b u e => ?_) I.bare
  · obtain ⟨o, es, ep, ho, r⟩ := hm
    exact ⟨o, es, ep, k _ o nL ho, r⟩
  · refine (I.hok b u e).stay (fun c v hc q => k c v ?_ q) (fun _ q => q) fun _ _ q => q
    rcases hc with z | z
    · rw [z]; exact nit b u e
    · exact nit c _ z
theorem Inv.trackO {D : Addr} {u : HO} (I : Inv X pins σ H s) (new : ObjOk X.prog X.w (upd H D u) s.heap D u) (hn : H D = none) (hL : D ≠ X.env.locals)
    (h1 : X.s₀.heap.objs.size ≤ D) (h2 : ∀ x c, X.env.cells.lookup x = some c → c ≠ D) (h3 : ∀ p ∈ X.pn ++ pins, p.1 ≠ D) : Inv X pins σ (upd H D u) s := by
  have ne : ∀ b v, H b = some v → b ≠ D := fun b v e z => by rw [z, hn] at e; cases e
  refine I.step (g' := s.gens) (d' := s.drawn) (t' := s.toks) (h' := s.heap) (ch := [D]) (fun b hb => ?_) (fun b o _ _ _ e _ => e) (fun b o _ _ _ e _ => ⟨o.slots, e⟩) (fun b o hc _ n => ?_) (fun b o _ e => ⟨o, e⟩)
    (fun b xs e => by rw [upd_ne (ne b _ e)]; exact e) (fun b o v e => by rw [upd_ne (ne b _ e)]; exact e) (fun b ps e => ⟨#[], by rw [upd_ne (ne b _ e), e]; simp⟩) (fun _ h => h) (fun b v e => ?_) I.bare
  · have e : b = D := by simpa using hb
    subst e
    exact ⟨.inr h1, hL, h2, h3⟩
  · rw [upd_ne (by simpa using hc)]; exact n
  · by_cases hb : b = D
    · subst hb
      rw [upd_same] at e; cases e
      exact new
    · rw [upd_ne hb] at e
      exact (I.hok b v e).stay (fun c v _ q => q) (fun c q => by rw [upd_ne (ne c _ q)]; exact q) fun c xs q => by rw [upd_ne (ne c _ q)]; exact q
end

def Itz (K : PySem.W.Frag) (k1 k2 : Sk) (a b : Addr) : It :=
  ⟨fun i H => ∃ xs ys x y, SqK k1 K H a xs ∧ SqK k2 K H b ys ∧ xs[i]? = some x ∧ ys[i]? = some y,
   fun i H v H' => ∃ p, H p = none ∧ v = .ref p ∧ ∀ xs ys, SqK k1 K H a xs → SqK k2 K H b ys → ∃ x y, xs[i]? = some x ∧ ys[i]? = some y ∧ H' = upd H p (.tup [x, y]),
   fun i H => ∃ xs ys, SqK k1 K H a xs ∧ SqK k2 K H b ys ∧ min xs.length ys.length = i⟩
theorem turn_zip {P : Program} {w : World} {K : PySem.W.Frag} {es : List Expr} {x1} {pos : Pos} (k1 k2 : Sk) (a b z TI TO i1 i2 : Addr) (D : ∀ l1 l2 : Addr, (∀ c ∈ [z, TI, TO, i1, i2], l1 ≠ c) → (∀ c ∈ [z, TI, TO, i1, i2], l2 ≠ c) → ZipApart z TI TO i1 i2 l1 l2) :
    Turn P w K (.Tuple es x1 pos) (Itz K k1 k2 a b) [z, TI, TO, i1, i2] z (fun i h => IsZip h z TI TO .none ∧ IsPair h TI (.ref i1) (.ref i2) ∧ (∃ x y, IsPair h TO x y) ∧ ItK k1 h i1 a i ∧ ItK k2 h i2 b i) where
  mem := by simp
  obj := fun i h st c hc => by
    obtain ⟨hz, hTI, ⟨x, y, hTO⟩, h1, h2⟩ := st
    simp only [List.mem_cons, List.not_mem_nil, or_false] at hc
    rcases hc with rfl | rfl | rfl | rfl | rfl
    · exact ⟨_, hz, fun v q => by cases q⟩
    · exact ⟨_, hTI, fun v q => by cases q⟩
    · exact ⟨_, hTO, fun v q => by cases q⟩
    · exact h1.obj
    · exact h2.obj
  keep := fun i h h' st k => by
    obtain ⟨hz, hTI, ⟨x, y, hTO⟩, h1, h2⟩ := st
    exact ⟨k z (by simp) _ hz, k TI (by simp) _ hTI, ⟨x, y, k TO (by simp) _ hTO⟩, h1.at fun o e => k i1 (by simp) o e, h2.at fun o e => k i2 (by simp) o e⟩
  item := by
    intro X hP hw hK hc i pins s σ H E I hf st hg
    subst hP hw hK
    obtain ⟨hz, hTI, ⟨x0, y0, hTO⟩, h1, h2⟩ := st
    obtain ⟨xs, ys, x, y, ha, hb, hx, hy⟩ := hg
    obtain ⟨its, rv, pa⟩ := I.seqK ha
    obtain ⟨jts, rw', pb⟩ := I.seqK hb
    obtain ⟨u, hu, ru⟩ := rv.get hx
    obtain ⟨v, hv, rv2⟩ := rw'.get hy
    have na : ∀ c ∈ [z, TI, TO, i1, i2], a ≠ c := fun c hc' => I.seq_ne ha (hf c hc')
    have nb : ∀ c ∈ [z, TI, TO, i1, i2], b ≠ c := fun c hc' => I.seq_ne hb (hf c hc')
    have DD := D a b na nb
    have hT : s.TypeIs (.ref z) "zip" := ⟨_, hz, rfl⟩
    have hi1 : i < its.toArray.size := by rw [List.size_toArray]; exact (List.getElem?_eq_some_iff.mp hu).1
    have hi2 : i < jts.toArray.size := by rw [List.size_toArray]; exact (List.getElem?_eq_some_iff.mp hv).1
    unfold pyNext
    refine wpAny_bind (wpAny_attempt (wpAny_callSpecial?_slot (name := Str.ofString "__next__") hT PySem.F.slot_zip_next (wpAny_call_entry PySem.F.slot_zip_next hT PySem.F.entry_zip_next
      (zipItem DD (subK k1 X.prog X.w i1 a its.toArray (na i1 (by simp))) (subK k2 X.prog X.w i2 b jts.toArray (nb i2 (by simp))) hz hTI hTO ⟨h1, pa⟩ ⟨h2, pb⟩ hi1 hi2 fun h' u' v' pu pv hz' hTO' s1 s2 hT' kp => wpAny_pure ?_) (PySem.F.args_zip_next_1 _))))
    have eu : u' = u := by
      have q : its[i]? = some u' := by simpa using pu
      rw [hu] at q
      exact (Option.some.inj q).symm
    have ev : v' = v := by
      have q : jts[i]? = some v' := by simpa using pv
      rw [hv] at q
      exact (Option.some.inj q).symm
    subst eu ev
    refine ⟨_, rfl, wpAny_letOwnedTupleGo_zip hz' fun h2 hz2 sb2 => ?_⟩
    have Tz : s.heap.objs.size ≠ z := Nat.ne_of_gt (Heap.lt_size hz)
    have hT2 : IsPair h2 s.heap.objs.size u' v' := sb2.extBut _ _ Tz hT'
    have hf0 := I.hok.fresh (Nat.le_refl s.heap.objs.size)
    have fz := I.fpOk (Nat.le_refl s.heap.objs.size) hf0
    have I2 : Inv X pins σ H { s with heap := h2 } := by
      refine I.turnedL (t' := s.toks) [z, TO, i1, i2] (fun c o hc' e => ?_) (fun c hc' => hf c ?_)
      · simp only [List.mem_cons, List.not_mem_nil, or_false, not_or] at hc'
        exact sb2.extBut _ _ hc'.1 (kp c o hc'.1 hc'.2.1 hc'.2.2.1 hc'.2.2.2 e)
      · simp only [List.mem_cons, List.not_mem_nil, or_false] at hc' ⊢
        rcases hc' with r | r | r | r
        · exact .inl r
        · exact .inr (.inr (.inl r))
        · exact .inr (.inr (.inr (.inl r)))
        · exact .inr (.inr (.inr (.inr r)))
    have I3 : Inv X pins σ (upd H s.heap.objs.size (.tup [x, y])) { s with heap := h2 } := by
      refine I2.trackO (show ObjOk X.prog X.w _ _ _ (.tup [x, y]) from ⟨by show 2 ≤ sizeLine; rw [sizeLine_eq]; decide, [u', v'], 0, .cons ru (.cons rv2 .nil), hT2⟩) hf0 fz.2.1 I.sz fz.2.2.2.2.1 fz.2.2.2.2.2
    refine ⟨.ref s.heap.objs.size, _, I3, rfl, ⟨s.heap.objs.size, hf0, rfl, fun xs' ys' ha' hb' => ?_⟩, ⟨hz2, sb2.extBut _ _ DD.TIz (kp _ _ DD.TIz DD.TITO DD.TIi1 DD.TIi2 hTI), ⟨_, _, sb2.extBut _ _ DD.TOz hTO'⟩, s1.1.at fun o e => sb2.extBut _ _ DD.i1z e, s2.1.at fun o e => sb2.extBut _ _ DD.i2z e⟩, fun c hc' => ?_⟩
    · rw [I.seqK_inj ha' ha, I.seqK_inj hb' hb]
      exact ⟨x, y, hx, hy, rfl⟩
    · have cl : c ≠ s.heap.objs.size := by
        obtain ⟨o, e⟩ : ∃ o, s.heap.get? c = some o := by
          simp only [List.mem_cons, List.not_mem_nil, or_false] at hc'
          rcases hc' with rfl | rfl | rfl | rfl | rfl
          · exact ⟨_, hz⟩
          · exact ⟨_, hTI⟩
          · exact ⟨_, hTO⟩
          · obtain ⟨o, e, _⟩ := h1.obj; exact ⟨o, e⟩
          · obtain ⟨o, e, _⟩ := h2.obj; exact ⟨o, e⟩
        exact Nat.ne_of_lt (Heap.lt_size e)
      rw [upd_ne cl]
      exact (hf c hc').1
  done := by
    intro X hP hw hK hc i pins s σ H E I hf st hg
    subst hP hw hK
    obtain ⟨hz, hTI, ⟨x0, y0, hTO⟩, h1, h2⟩ := st
    obtain ⟨xs, ys, ha, hb, hmin⟩ := hg
    obtain ⟨its, rv, pa⟩ := I.seqK ha
    obtain ⟨jts, rw', pb⟩ := I.seqK hb
    have la := rv.length
    have lb := rw'.length
    have na : ∀ c ∈ [z, TI, TO, i1, i2], a ≠ c := fun c hc' => I.seq_ne ha (hf c hc')
    have nb : ∀ c ∈ [z, TI, TO, i1, i2], b ≠ c := fun c hc' => I.seq_ne hb (hf c hc')
    have DD := D a b na nb
    have hT : s.TypeIs (.ref z) "zip" := ⟨_, hz, rfl⟩
    unfold pyNext
    refine wpAny_bind (wpAny_attempt (wpAny_callSpecial?_slot (name := Str.ofString "__next__") hT PySem.F.slot_zip_next (wpAny_call_entry PySem.F.slot_zip_next hT PySem.F.entry_zip_next
      (zipEnd (I.ok.hd hc) DD (subK k1 X.prog X.w i1 a its.toArray (na i1 (by simp))) (subK k2 X.prog X.w i2 b jts.toArray (nb i2 (by simp))) hz hTI hTO ⟨h1, pa⟩ ⟨h2, pb⟩ (by rw [List.size_toArray, List.size_toArray]; omega) fun h' e kp he => ?_) (PySem.F.args_zip_next_1 _))))
    obtain ⟨oe, hoe, hce⟩ := he
    refine wpAny_bind (wpAny_isInstance (T := "StopIteration") (b := true) ⟨oe, hoe, hce⟩ isSubtype_stop (wpAny_pure ⟨rfl, ?_⟩))
    refine I.turnedL (t' := s.toks) [z, TO, i1, i2] (fun c o hc' e => ?_) (fun c hc' => hf c ?_)
    · simp only [List.mem_cons, List.not_mem_nil, or_false, not_or] at hc'
      exact kp c o hc'.1 hc'.2.1 hc'.2.2.1 hc'.2.2.2 e
    · simp only [List.mem_cons, List.not_mem_nil, or_false] at hc' ⊢
      rcases hc' with r | r | r | r
      · exact .inl r
      · exact .inr (.inr (.inl r))
      · exact .inr (.inr (.inr (.inl r)))
      · exact .inr (.inr (.inr (.inr r)))
  self := fun _ _ _ _ _ st h => wpAny_pyIter_zip st.1 h

abbrev zh1 (k1 : Sk) (h : Heap) (a : Addr) : Heap := h.push (itK k1 a)
abbrev zh2 (k1 k2 : Sk) (h : Heap) (a b : Addr) : Heap := (zh1 k1 h a).push (itK k2 b)
abbrev zh3 (k1 k2 : Sk) (h : Heap) (a b : Addr) : Heap := (zh2 k1 k2 h a b).push { cls := .type "tuple", data := .seq #[.ref h.objs.size, .ref (zh1 k1 h a).objs.size] }
abbrev zh4 (k1 k2 : Sk) (h : Heap) (a b : Addr) : Heap := (zh3 k1 k2 h a b).push { cls := .type "tuple", data := .seq #[.none, .none] }
abbrev zh5 (k1 k2 : Sk) (h : Heap) (a b : Addr) : Heap := (zh4 k1 k2 h a b).push { cls := .type "zip", data := .fields #[.none, .bool false, .bool false, .ref (zh2 k1 k2 h a b).objs.size, .ref (zh3 k1 k2 h a b).objs.size] }
theorem zip_made (k1 k2 : Sk) (a b : Addr) (xs ys : Array Value) :
    Meets (Builtin.«zip.__new__» ⟨[.type "zip", .ref a, .ref b], []⟩) (fun _ R s => AtK k1 s.heap a xs ∧ AtK k2 s.heap b ys ∧ R (.ok (.ret (.ref (zh4 k1 k2 s.heap a b).objs.size))) { s with heap := zh5 k1 k2 s.heap a b }) :=
  .of_wp fun prog w A R s h => by
    obtain ⟨hp, g, d, tk, os⟩ := s
    obtain ⟨hl1, hl2, h⟩ := h
    have hsub := sub_zip
    have hA : AtK k1 (Shared.heap ⟨hp, g, d, tk, os⟩) a xs := hl1
    have hB : AtK k2 (Shared.heap ⟨hp.push (itK k1 a), g, d, tk, os⟩) b ys := AtK.at hl2 fun o e => Heap.get?_push_of_some _ e
    wp_walk using iterK hA, iterK hB
    exact ⟨_, rfl, h⟩
section
variable {X : Cx} {es : List Expr} {x1 : Nat} {tpos : Pos}
def iZip (K : PySem.W.Frag) (k1 k2 : Sk) (ta : TA) : TI := fun σ H R => ta σ H fun vs H1 => ∃ a b xs ys, vs = [.ref a, .ref b] ∧ SqK k1 K H1 a xs ∧ SqK k2 K H1 b ys ∧ R (Itz K k1 k2 a b) H1
theorem pi_zip (k1 k2 : Sk) {a b : Expr} {ta : TA} {p pos : Pos} (hg : Gl X "zip") (hm : X.mg "zip" = none) (ha : PA X [a, b] ta) (hs : starEach [a, b] X.env = [(false, eval a X.env), (false, eval b X.env)] := by rfl) (hs2 : starEach [b] X.env = [(false, eval b X.env)] := by rfl) :
    PI X (.Tuple es x1 tpos) (.Call (.Name "zip" p) [a, b] [] pos) (iZip X.K k1 k2 ta) := by
  intro pins s σ H R I h
  refine Call_ (ld_blt (u := .type "zip") I hg hm (by decide +kernel) (PyProof.Rows.callWith_type1 (thn (ha pos pins s σ H _ I h) fun us s1 ⟨vs, H1, I1, r1, q1⟩ => ?_) (by rw [hs, hs2]) (by rw [hs2]; rfl)))
  obtain ⟨l1, l2, xs, ys, rfl, hA, hB, q⟩ := q1
  obtain ⟨u1, u2, rfl, r1', r2'⟩ := vals2 r1
  cases r1'
  cases r2'
  obtain ⟨its, rv, pa⟩ := I1.seqK hA
  obtain ⟨jts, rw', pb⟩ := I1.seqK hB
  refine callType_new PySem.F.called_zip (by decide) (PySem.F.typeCall_zip_2 _ _) (PySem.F.newCall_zip_2 _ _) (fun obj => PySem.F.args_object_init_3 obj _ _) PySem.F.entry_zip_new (zip_made k1 k2 l1 l2 its.toArray jts.toArray) ⟨pa, pb, ?_⟩
  have n1 : (zh1 k1 s1.heap l1).objs.size = s1.heap.objs.size + 1 := Heap.size_push ..
  have n2 : (zh2 k1 k2 s1.heap l1 l2).objs.size = s1.heap.objs.size + 2 := by rw [Heap.size_push, n1]
  have n3 : (zh3 k1 k2 s1.heap l1 l2).objs.size = s1.heap.objs.size + 3 := by rw [Heap.size_push, n2]
  have n4 : (zh4 k1 k2 s1.heap l1 l2).objs.size = s1.heap.objs.size + 4 := by rw [Heap.size_push, n3]
  have g5 : IsZip (zh5 k1 k2 s1.heap l1 l2) (zh4 k1 k2 s1.heap l1 l2).objs.size (zh2 k1 k2 s1.heap l1 l2).objs.size (zh3 k1 k2 s1.heap l1 l2).objs.size .none := Heap.get?_push_size _ rfl
  have g4 : IsPair (zh5 k1 k2 s1.heap l1 l2) (zh3 k1 k2 s1.heap l1 l2).objs.size .none .none := Heap.get?_push_of_some _ (Heap.get?_push_size _ rfl)
  have g3 : IsPair (zh5 k1 k2 s1.heap l1 l2) (zh2 k1 k2 s1.heap l1 l2).objs.size (.ref s1.heap.objs.size) (.ref (zh1 k1 s1.heap l1).objs.size) := Heap.get?_push_of_some _ (Heap.get?_push_of_some _ (Heap.get?_push_size _ rfl))
  have g2 : ItK k2 (zh5 k1 k2 s1.heap l1 l2) (zh1 k1 s1.heap l1).objs.size l2 0 := (ItK.new k2 (zh1 k1 s1.heap l1) l2).at fun o e => Heap.get?_push_of_some _ (Heap.get?_push_of_some _ (Heap.get?_push_of_some _ e))
  have g1 : ItK k1 (zh5 k1 k2 s1.heap l1 l2) s1.heap.objs.size l1 0 := (ItK.new k1 s1.heap l1).at fun o e => Heap.get?_push_of_some _ (Heap.get?_push_of_some _ (Heap.get?_push_of_some _ (Heap.get?_push_of_some _ e)))
  have kp : ∀ c o, s1.heap.get? c = some o → (zh5 k1 k2 s1.heap l1 l2).get? c = some o := fun c o e => Heap.get?_push_of_some _ (Heap.get?_push_of_some _ (Heap.get?_push_of_some _ (Heap.get?_push_of_some _ (Heap.get?_push_of_some _ e))))
  refine ⟨⟨_, g5, rfl⟩, wpAny_pyIter_zip (f0 := .none) g5 ?_⟩
  rw [n1, n2, n3, n4] at *
  have I2 : Inv X pins σ H1 { s1 with heap := zh5 k1 k2 s1.heap l1 l2 } := I1.kept (t' := s1.toks) kp
  refine ⟨s1.heap.objs.size + 4, [s1.heap.objs.size + 4, s1.heap.objs.size + 2, s1.heap.objs.size + 3, s1.heap.objs.size, s1.heap.objs.size + 1], _, _, H1, rfl, I2, turn_zip k1 k2 l1 l2 _ _ _ _ _ ?_, ⟨g5, g3, ⟨_, _, g4⟩, g1, g2⟩, fun c hc => ?_, q⟩
  · intro m1 m2 h1 h2
    have d : ∀ i j : Nat, i ≠ j → s1.heap.objs.size + i ≠ s1.heap.objs.size + j := fun i j h => by omega
    exact ⟨d 2 4 (by decide), d 3 4 (by decide), d 0 4 (by decide), d 1 4 (by decide), d 2 3 (by decide), d 2 0 (by decide), d 2 1 (by decide), d 3 0 (by decide), d 3 1 (by decide), d 0 1 (by decide),
      h1 _ (by simp), h1 _ (by simp), h1 _ (by simp), h1 _ (by simp), h2 _ (by simp), h2 _ (by simp), h2 _ (by simp), h2 _ (by simp)⟩
  · have hc' : s1.heap.objs.size ≤ c := by
      simp only [List.mem_cons, List.not_mem_nil, or_false] at hc
      rcases hc with r | r | r | r | r
      · rw [r]; exact Nat.le_add_right _ _
      · rw [r]; exact Nat.le_add_right _ _
      · rw [r]; exact Nat.le_add_right _ _
      · rw [r]; exact Nat.le_refl _
      · rw [r]; exact Nat.le_add_right _ _
    exact I1.fpOk hc' (I1.hok.fresh hc')
end
end L2
set_option Elab.async false
set_option linter.all false
set_option maxRecDepth 100000
namespace L2
open PySem PySem.Spec PyProof.Rows
open PySem.AutoSeq1 (wpAny_loadPart')
theorem tuple_add_nil (l b : Addr) (items items2 : Array Value) (n n2 : Nat) (dd dd2 : Option Addr) (sl sl2 : Array (Option Value)) (hc0 : items.isEmpty = true) :
    Meets (Builtin.«tuple.__add__» ⟨[.ref l, .ref b], []⟩) (fun _ R s => s.heap.get? l = some { cls := .type "tuple", dict := dd, data := .seq items n, slots := sl } ∧ s.heap.get? b = some { cls := .type "tuple", dict := dd2, data := .seq items2 n2, slots := sl2 } ∧ R (.ok (.ret (Value.ref b))) s) :=
  .of_wp fun prog w A R s h => by
    obtain ⟨hp, g, d, tk, os⟩ := s
    obtain ⟨hl, hb, h⟩ := h
    have f1 := AutoSeq1.idx_int
    have f2 := AutoSeq1.sub_tuple_tuple
    wp_walk using wpAny_loadPart' hl, wpAny_loadPart' hb
    exact ⟨_, rfl, h⟩
section
variable {X : Cx}
theorem op_cat2 : OpR X (binaryOp .Add) (fun x y H Q => ∃ a b xs ys, x = .ref a ∧ y = .ref b ∧ SqT X.K H a xs ∧ SqT X.K H b ys ∧ xs.length + ys.length ≤ sizeLine ∧ ∀ p H', Same H H' → SqT X.K H' p (xs ++ ys) → Q (.ref p) H') := by
  intro pins s σ H x y v u Q I rx ry h
  obtain ⟨a, b, xs, ys, rfl, rfl, ha, hb, hz, q⟩ := h
  by_cases hx : xs = []
  · subst hx
    cases rx
    cases ry
    obtain ⟨its, r1, ⟨⟨cls, dd, data, sl⟩, ho, hc, n, hd⟩, _⟩ := I.tuple ha
    obtain ⟨its2, r2, ⟨⟨cls2, dd2, data2, sl2⟩, ho2, hc2, n2, hd2⟩, _⟩ := I.tuple hb
    simp only at hc hd hc2 hd2
    subst hc hd hc2 hd2
    cases r1
    exact concat_meets ⟨_, ho, rfl⟩ ⟨_, ho2, rfl⟩ noFill_tuple_add seq_tuple_add PySem.F.slot_tuple_add PySem.F.entry_tuple_add (PySem.F.args_tuple_add_2 _ _)
      (tuple_add_nil a b _ _ n n2 dd dd2 sl sl2 rfl) ⟨ho, ho2, ⟨.ref b, H, I, rfl, q b H (Same.refl H) hb⟩⟩
  · refine op_catT pins s σ H _ _ v u Q I rx ry ⟨a, b, xs, ys, rfl, rfl, ha, hb, hx, hz, fun e => ?_, fun e p hp => ?_⟩
    · subst e
      exact q a H (Same.refl H) (by rw [List.append_nil]; exact ha)
    · exact q p _ (Same.new hp) (SqT.of upd_same)
theorem getItem_tuple_whole {prog : Program} {w : World} {A : Around} {E : Value → Shared → Prop} {s : Shared} {t sl : Addr} {items : Array Value} {vl vu : Value} {lo hi : Option Int} {Q : Value → Shared → Prop} (ht : IsTup s.heap t items) (hs : s.heap.IsSliceOf sl vl vu .none) (pl : IsPart vl lo) (pu : IsPart vu hi)
    (hw : HT.sIx items.size 0 lo = 0 ∧ HT.sIx items.size items.size hi = items.size) (h : Q (.ref t) s) : wpAny (model prog w) A (getItem (.ref t) (.ref sl)) Q E s := by
  obtain ⟨os, hos, hcs, hds⟩ := id hs
  have hTs : s.TypeIs (.ref sl) "slice" := ⟨os, hos, hcs⟩
  unfold getItem
  try with_reducible refine wpAny_holding ?_
  first | refine wpAny_bind (wpAny_pure ?_) | skip
  refine wpAny_bind (wpAny_sequenceKey ht.typeIs (by decide) ?_)
  refine wpAny_bind (wpAny_callSpecial?_slot (name := Str.ofString "__getitem__") ht.typeIs PyProof.Rows.slot_tuple_getitem
    (wpAny_call_entry PyProof.Rows.slot_tuple_getitem ht.typeIs entry_tuple_getitem ?_ (args_tuple_getitem _ _)))
  refine wpAny_bind (m := Builtin.Tuple.tupleItemsOf (.ref t)) (tupleItemsOf_ ht ?_)
  refine wpAny_bind (wpAny_typeOf hTs ?_)
  rw [if_pos (by decide)]
  refine wpAny_bind (HT.sliceApplied_gen hs pl pu ?_)
  have hyes : (((HT.sIx items.size 0 lo : Nat) : Int) == 0 && (1 : Int) == 1 && (HT.sIx items.size items.size hi - HT.sIx items.size 0 lo) == items.size) = true := by
    rw [hw.1, hw.2]; simp
  show wpAny _ _ (if (((HT.sIx items.size 0 lo : Nat) : Int) == 0 && (1 : Int) == 1 && (HT.sIx items.size items.size hi - HT.sIx items.size 0 lo) == items.size) = true then _ else _) _ _ s
  rw [if_pos hyes]
  unfold Builtin.Tuple.tupleIsExact
  refine wpAny_bind (wpAny_bind (wpAny_typeOf ht.typeIs (wpAny_pure ?_)))
  refine wpAny_ite_split (fun _ => wpAny_bind (wpAny_rule (wpAny_pure ⟨_, rfl, wpAny_pure h⟩))) (fun hab => absurd (by rfl) hab)
theorem sl_tup2 : SlR X (fun x lo hi H Q => ∃ a xs, x = .ref a ∧ SqT X.K H a xs ∧ ∀ p H', Same H H' → SqT X.K H' p (cutV xs lo hi) → Q (.ref p) H') := by
  intro pins s σ H x v vl vu lo hi sl Q I rx hs pl pu h
  obtain ⟨a, xs, rfl, hx, q⟩ := h
  by_cases hw : HT.sIx xs.length 0 lo = 0 ∧ HT.sIx xs.length xs.length hi = xs.length
  · cases rx
    obtain ⟨its, r, ht, hz⟩ := I.tuple hx
    have hlen : its.toArray.size = xs.length := by rw [List.size_toArray]; exact r.length.symm
    refine ⟨"tuple", _, PyProof.Rows.slot_tuple_getitem.lookup, ht.typeIs, ?_⟩
    refine getItem_tuple_whole ht hs pl pu (by rw [hlen]; exact hw) ⟨.ref a, H, I, rfl, q a H (Same.refl H) ?_⟩
    have e : cutV xs lo hi = xs := by
      unfold cutV
      rw [hw.1, hw.2, List.drop_zero, Nat.sub_zero, List.take_length]
    rw [e]; exact hx
  · exact sl_tup pins s σ H _ v vl vu lo hi sl Q I rx hs pl pu ⟨a, xs, rfl, hx, hw, fun p hp => q p _ (Same.new hp) (SqT.of upd_same)⟩
theorem cutV_to (xs : List V) (k : Nat) : cutV xs none (some (k : Int)) = xs.take k := by
  unfold cutV
  rw [HT.sIx_none, HT.sIx_nat, List.drop_zero, Nat.sub_zero]
  by_cases h : k ≤ xs.length
  · rw [Nat.min_eq_left h]
  · rw [Nat.min_eq_right (by omega), List.take_of_length_le (Nat.le_refl _), List.take_of_length_le (by omega)]
theorem cutV_from (xs : List V) (k : Nat) : cutV xs (some (k : Int)) none = xs.drop k := by
  unfold cutV
  rw [HT.sIx_none, HT.sIx_nat]
  by_cases h : k ≤ xs.length
  · rw [Nat.min_eq_left h, List.take_of_length_le (by rw [List.length_drop]; exact Nat.le_refl _)]
  · rw [Nat.min_eq_right (by omega), List.drop_of_length_le (Nat.le_refl _), List.drop_of_length_le (by omega), List.take_nil]
end
end L2
set_option Elab.async false
set_option linter.all false
set_option maxRecDepth 100000
namespace L2
open PySem PySem.Spec PyProof.Rows
def ixCheck (N frn : List Str) (fr : List Nat) : Bool := frn.length == fr.length && (frn.zip fr).all fun y => N[y.2]? == some y.1
theorem compOk_of {X : Cx} {scope : Scope} {own frn : List Str} {fr : List Nat} (sc : Scope) (N : List Str) (h1 : X.env.scope = sc) (h2 : X.N = N) (h : (compCheck sc scope own frn && ixCheck N frn fr) = true) : CompOk X scope own fr frn := by
  rw [Bool.and_eq_true] at h
  obtain ⟨ha, hb⟩ := h
  unfold ixCheck at hb
  simp only [Bool.and_eq_true, beq_iff_eq, List.all_eq_true] at hb
  refine ⟨by rw [h1]; exact ha, fun k x hk => ?_, hb.1.symm⟩
  have hlt : k < fr.length := by rw [← hb.1]; exact (List.getElem?_eq_some_iff.mp hk).1
  refine ⟨fr[k], List.getElem?_eq_getElem hlt, ?_⟩
  have hm : (x, fr[k]) ∈ frn.zip fr := by
    refine List.mem_of_getElem? (i := k) ?_
    rw [List.getElem?_zip_eq_some]
    exact ⟨hk, List.getElem?_eq_getElem hlt⟩
  rw [h2]
  exact hb.2 _ hm
section
variable {J : It} {own : Nat} {fr : List Nat} {g : TG} {tt : TT} {te : TE} {σ : St} {H : Hp} {Q : Hp → List V → Prop}
theorem comp_it (n : Nat) (hn : n ≤ sizeLine) (SH : St → Prop) (Pv : Nat → List V → Hp → Prop) (hσ : SH (blk own fr σ)) (h0 : Pv 0 [] H) (hlen : ∀ i ys H, Pv i ys H → ys.length ≤ i)
    (hstop : ∀ ys H, Pv n ys H → J.stop n H) (hgo : ∀ i ys H, i < n → Pv i ys H → J.go i H)
    (hs : ∀ i ys σ x H H', i < n → SH σ → Pv i ys H → J.yld i H x H' → ys.length < sizeLine → g x σ H' fun σ2 H2 => tt σ2 H2 fun b H3 => if b = true then te σ2 H3 fun y H4 => ys.length < sizeLine ∧ SH σ2 ∧ Pv (i + 1) (ys ++ [y]) H4 else SH σ2 ∧ Pv (i + 1) ys H3)
    (hd : ∀ ys H, Pv n ys H → Q H ys) :
    ∃ W : Nat → Nat → List V → St → Hp → Prop, (∃ m, W 0 m [] (blk own fr σ) H) ∧ ∀ i m ys σ' H, W i m ys σ' H →
      (J.stop i H ∧ Q H ys) ∨
      (J.go i H ∧ ∃ N : List V → St → Hp → Prop, (∀ ys' σ2 H2, N ys' σ2 H2 → ∃ m', m' < m ∧ W (i + 1) m' ys' σ2 H2) ∧
        ∀ x H', J.yld i H x H' → g x σ' H' fun σ2 H2 => tt σ2 H2 fun b H3 => if b = true then te σ2 H3 fun y H4 => ys.length < sizeLine ∧ N (ys ++ [y]) σ2 H4 else N ys σ2 H3) := by
  refine ⟨fun i m ys σ' H => m = n - i ∧ i ≤ n ∧ SH σ' ∧ Pv i ys H, ⟨n, by simp, Nat.zero_le _, hσ, h0⟩, ?_⟩
  rintro i m ys σ' H ⟨rfl, hi, sh, p⟩
  by_cases hlt : i < n
  · refine .inr ⟨hgo i ys H hlt p, fun ys' σ2 H2 => SH σ2 ∧ Pv (i + 1) ys' H2, fun ys' σ2 H2 ⟨e, q⟩ => ⟨n - (i + 1), by omega, rfl, hlt, e, q⟩, fun x H' y => ?_⟩
    exact hs i ys σ' x H H' hlt sh p y (by have := hlen i ys H p; omega)
  · have e : i = n := by omega
    subst e
    exact .inl ⟨hstop ys H p, hd ys H p⟩
theorem comp_tup {K : PySem.W.Frag} {a : Addr} {xs : List V} (SH : St → Prop) (Pv : Nat → List V → Hp → Prop) (hn : xs.length ≤ sizeLine) (hσ : SH (blk own fr σ)) (h0 : Pv 0 [] H) (hlen : ∀ i ys H, Pv i ys H → ys.length ≤ i) (hl : ∀ i ys H, Pv i ys H → SqT K H a xs)
    (hs : ∀ i ys σ x H, xs[i]? = some x → SH σ → Pv i ys H → ys.length < sizeLine → g x σ H fun σ2 H2 => tt σ2 H2 fun b H3 => if b = true then te σ2 H3 fun y H4 => ys.length < sizeLine ∧ SH σ2 ∧ Pv (i + 1) (ys ++ [y]) H4 else SH σ2 ∧ Pv (i + 1) ys H3)
    (hd : ∀ ys H, Pv xs.length ys H → Q H ys) :
    ∃ W : Nat → Nat → List V → St → Hp → Prop, (∃ m, W 0 m [] (blk own fr σ) H) ∧ ∀ i m ys σ' H, W i m ys σ' H →
      ((Itt K a).stop i H ∧ Q H ys) ∨
      ((Itt K a).go i H ∧ ∃ N : List V → St → Hp → Prop, (∀ ys' σ2 H2, N ys' σ2 H2 → ∃ m', m' < m ∧ W (i + 1) m' ys' σ2 H2) ∧
        ∀ x H', (Itt K a).yld i H x H' → g x σ' H' fun σ2 H2 => tt σ2 H2 fun b H3 => if b = true then te σ2 H3 fun y H4 => ys.length < sizeLine ∧ N (ys ++ [y]) σ2 H4 else N ys σ2 H3) := by
  refine comp_it xs.length hn SH Pv hσ h0 hlen (fun ys H p => ⟨xs, hl _ _ _ p, Nat.le_refl _⟩) (fun i ys H hi p => ⟨xs, xs[i], hl _ _ _ p, List.getElem?_eq_getElem hi⟩) (fun i ys σ x H H' hi sh p y hz => ?_) hd
  obtain ⟨e, y⟩ := y
  subst e
  exact hs i ys σ x _ (y xs (hl _ _ _ p)) sh p hz
theorem comp_list {K : PySem.W.Frag} {a : Addr} {xs : List V} (SH : St → Prop) (Pv : Nat → List V → Hp → Prop) (hn : xs.length ≤ sizeLine) (hσ : SH (blk own fr σ)) (h0 : Pv 0 [] H) (hlen : ∀ i ys H, Pv i ys H → ys.length ≤ i) (hl : ∀ i ys H, Pv i ys H → SqL K H a xs)
    (hs : ∀ i ys σ x H, xs[i]? = some x → SH σ → Pv i ys H → ys.length < sizeLine → g x σ H fun σ2 H2 => tt σ2 H2 fun b H3 => if b = true then te σ2 H3 fun y H4 => ys.length < sizeLine ∧ SH σ2 ∧ Pv (i + 1) (ys ++ [y]) H4 else SH σ2 ∧ Pv (i + 1) ys H3)
    (hd : ∀ ys H, Pv xs.length ys H → Q H ys) :
    ∃ W : Nat → Nat → List V → St → Hp → Prop, (∃ m, W 0 m [] (blk own fr σ) H) ∧ ∀ i m ys σ' H, W i m ys σ' H →
      ((Itl K a).stop i H ∧ Q H ys) ∨
      ((Itl K a).go i H ∧ ∃ N : List V → St → Hp → Prop, (∀ ys' σ2 H2, N ys' σ2 H2 → ∃ m', m' < m ∧ W (i + 1) m' ys' σ2 H2) ∧
        ∀ x H', (Itl K a).yld i H x H' → g x σ' H' fun σ2 H2 => tt σ2 H2 fun b H3 => if b = true then te σ2 H3 fun y H4 => ys.length < sizeLine ∧ N (ys ++ [y]) σ2 H4 else N ys σ2 H3) := by
  refine comp_it xs.length hn SH Pv hσ h0 hlen (fun ys H p => ⟨xs, hl _ _ _ p, Nat.le_refl _⟩) (fun i ys H hi p => ⟨xs, xs[i], hl _ _ _ p, List.getElem?_eq_getElem hi⟩) (fun i ys σ x H H' hi sh p y hz => ?_) hd
  obtain ⟨e, y⟩ := y
  subst e
  exact hs i ys σ x _ (y xs (hl _ _ _ p)) sh p hz
theorem comp_range {lo : Int} {n : Nat} (SH : St → Prop) (Pv : Nat → List V → Hp → Prop) (hn : n ≤ sizeLine) (hσ : SH (blk own fr σ)) (h0 : Pv 0 [] H) (hlen : ∀ i ys H, Pv i ys H → ys.length ≤ i)
    (hs : ∀ i ys σ H, i < n → SH σ → Pv i ys H → ys.length < sizeLine → g (.int (lo + i)) σ H fun σ2 H2 => tt σ2 H2 fun b H3 => if b = true then te σ2 H3 fun y H4 => ys.length < sizeLine ∧ SH σ2 ∧ Pv (i + 1) (ys ++ [y]) H4 else SH σ2 ∧ Pv (i + 1) ys H3)
    (hd : ∀ ys H, Pv n ys H → Q H ys) :
    ∃ W : Nat → Nat → List V → St → Hp → Prop, (∃ m, W 0 m [] (blk own fr σ) H) ∧ ∀ i m ys σ' H, W i m ys σ' H →
      ((Itr lo n).stop i H ∧ Q H ys) ∨
      ((Itr lo n).go i H ∧ ∃ N : List V → St → Hp → Prop, (∀ ys' σ2 H2, N ys' σ2 H2 → ∃ m', m' < m ∧ W (i + 1) m' ys' σ2 H2) ∧
        ∀ x H', (Itr lo n).yld i H x H' → g x σ' H' fun σ2 H2 => tt σ2 H2 fun b H3 => if b = true then te σ2 H3 fun y H4 => ys.length < sizeLine ∧ N (ys ++ [y]) σ2 H4 else N ys σ2 H3) := by
  refine comp_it n hn SH Pv hσ h0 hlen (fun ys H p => Nat.le_refl _) (fun i ys H hi p => hi) (fun i ys σ x H H' hi sh p y hz => ?_) hd
  obtain ⟨e, y⟩ := y
  subst e y
  exact hs i ys σ _ hi sh p hz
end
end L2
set_option Elab.async false
set_option linter.all false
set_option maxRecDepth 100000
namespace L2
open PySem PySem.Spec PyProof.Rows
section
variable {X : Cx}
def CDivB (i j : Int) : Prop := 0 < j ∧ j < 1267650600228229401496703205376
theorem op_fdivB : OpR X (binaryOp .FloorDiv) (rI CDivB fun i j => .int (i / j)) := opI fun i j _ _ _ _ _ hc q => by
  have h1 : (0 : Int) < j := hc.1
  have h2 : j < 1267650600228229401496703205376 := hc.2
  refine floordiv_int (by omega) (by rw [Int.fdiv_eq_ediv_of_nonneg i (by omega)]; exact q) (.inl (PyProof.noPylong_of_log2 ?_))
  have h3 : j.natAbs.log2 < 100 := (Nat.log2_lt (by omega)).mpr (by omega)
  omega
theorem Inv.big0 {pins : List (Addr × Obj)} {σ : St} {H : Hp} {s : Shared} (I : Inv X pins σ H s) : sysModules < s.heap.objs.size := by
  have h : mainGlobals < s.heap.objs.size := (I.mod.glob.keeps I.bk).lt
  exact Nat.lt_trans (by decide) h
theorem dk_none {P : Program} {w : World} {H : Hp} (h : Heap) (hb : sysModules < h.objs.size) : ObjOk P w H (h.push { cls := .type "dict", data := .dict #[] }) h.objs.size (.dK []) :=
  ⟨Nat.zero_le _, beq_eq_false_iff_ne.mpr (Ne.symm (Nat.ne_of_lt hb)), [], .nil, Heap.DictOf.new h⟩
def tDict0 : TE := fun _ H Q => ∀ p, H p = none → Q (.ref p) (upd H p (.dK []))
theorem pe_dict0 {pos : Pos} : PE X (.Dict [] [] pos) tDict0 := fun pins s σ H Q I h =>
  wpAny_Dict_empty ⟨.ref s.heap.objs.size, _, I.laid (a := s.heap.objs.size) (o := .dK []) (t' := s.toks) (fun _ _ q => Heap.get?_push_of_some _ q) (Nat.le_refl _) (dk_none s.heap I.big0), rfl, h _ (I.hok.fresh (Nat.le_refl _))⟩
theorem vals_of : ∀ {xs : List V} {us : List Value}, xs.length = us.length → (∀ (j : Nat) (x : V) (u : Value), xs[j]? = some x → us[j]? = some u → RelV x u) → Vals xs us
  | [], [], _, _ => .nil
  | [], _ :: _, h, _ => by cases h
  | _ :: _, [], h, _ => by cases h
  | x :: xs, u :: us, h, k => .cons (k 0 x u rfl rfl) (vals_of (by simpa using h) fun j y v hy hv => k (j + 1) y v hy hv)
theorem call_list_rng (hc : X.calm = true) : CallR X (.type "list") (fun xs H Q => ∃ (a : Addr) (n : Nat), xs = [.ref a] ∧ H a = some (.rng 0 n) ∧ n ≤ 1000 ∧ ∀ p, H p = none → Q (.ref p) (upd H p (.lst ((upto n).map V.int)))) := by
  intro pins s σ H xs us Q I r h
  obtain ⟨a, n, rfl, ha, hn, q⟩ := h
  obtain ⟨u, rfl, rx⟩ := vals1 r
  cases rx
  obtain ⟨t, u, v, e⟩ := I.hok a _ ha
  have hsz : Builtin.Range.rangeSize 0 (n : Int) 1 = (n : Int) := by rw [rangeSize_one]; split <;> omega
  have hsm : Builtin.Range.small 0 (n : Int) 1 = true := small_one (by omega) (by omega) (by omega) (by omega)
  refine call_list_range (I.ok.hd hc) e hsm hsz (Nat.le_trans hn (by decide)) fun h' tk acc' c' kp hl hi => ?_
  have hv : Vals ((upto n).map V.int) acc'.toList := by
    obtain ⟨h1, h2⟩ := hi
    refine vals_of (by unfold upto; simp [h1]) fun j x u hx hu => ?_
    have hj : j < n := by
      have := (List.getElem?_eq_some_iff.mp hu).1
      rw [Array.length_toList, h1] at this
      exact this
    obtain ⟨t, rfl⟩ := h2 j u (by rw [← Array.getElem?_toList]; exact hu)
    unfold upto at hx
    rw [List.getElem?_map, List.getElem?_map, List.getElem?_range hj] at hx
    have e : V.int (j : Int) = x := Option.some.inj hx
    rw [← e]
    exact ⟨t, by rw [Int.zero_add, Int.mul_one]⟩
  have hlen : ((upto n).map V.int).length ≤ sizeLine := by unfold upto; rw [List.length_map, List.length_map, List.length_range, sizeLine_eq]; omega
  exact ⟨.ref s.heap.objs.size, _, I.laid (t' := tk) kp (Nat.le_refl _) (show ObjOk X.prog X.w _ h' _ (.lst _) from ⟨hlen, acc'.toList, c', hv, hl⟩), rfl, q _ (I.hok.fresh (Nat.le_refl _))⟩
theorem sliceApplied_rev {prog : Program} {w : World} {A : Around} {E : Value → Shared → Prop} {s : Shared} {sl : Addr} {tk : Tok} {n : Nat} {Q : Int × Int × Nat → Shared → Prop} (hs : s.heap.IsSliceOf sl .none .none (.int (-1) tk))
    (h : Q ((n : Int) - 1, -1, n) s) : wpAny (model prog w) A (Builtin.Slice.sliceApplied (.ref sl) (pure (n : Int))) Q E s := by
  obtain ⟨os, hos, hcs, hds⟩ := id hs
  unfold Builtin.Slice.sliceApplied Builtin.Slice.sliceFields
  refine wpAny_bind (wpAny_bind (wpAny_field hos hds (x := .none) rfl (wpAny_bind (wpAny_field hos hds (x := .none) rfl (wpAny_bind (wpAny_field hos hds (x := .int (-1) tk) rfl (wpAny_pure ?_)))))))
  refine wpAny_bind (HT.slicePart_ (.int (-1) tk) ?_)
  show wpAny _ _ (if ((-1 : Int) == 0) = true then _ else _) _ _ s
  rw [if_neg (by decide)]
  refine wpAny_bind (HT.slicePart_ .none (wpAny_bind (HT.slicePart_ .none (wpAny_bind (wpAny_pure ?_)))))
  show wpAny _ _ (match Builtin.Slice.sliceAdjust none none (-1) (n : Int) with | (lo, hi) => pure (lo, (-1 : Int), Builtin.Slice.slicePlaces lo hi (-1))) _ _ s
  have e : Builtin.Slice.sliceAdjust none none (-1) (n : Int) = ((n : Int) - 1, -1) := by simp [Builtin.Slice.sliceAdjust]
  rw [e]
  have e2 : Builtin.Slice.slicePlaces ((n : Int) - 1) (-1) (-1) = n := by
    unfold Builtin.Slice.slicePlaces
    rw [if_neg (by decide)]
    by_cases h0 : n = 0
    · subst h0; decide
    · rw [if_pos (by omega)]
      have : ((n : Int) - 1 - -1 - 1) / (- -1) + 1 = n := by rw [show (- -1 : Int) = 1 from rfl, Int.ediv_one]; omega
      rw [this]; simp
  show wpAny _ _ (pure ((n : Int) - 1, (-1 : Int), Builtin.Slice.slicePlaces ((n : Int) - 1) (-1) (-1))) _ _ s
  rw [e2]
  exact wpAny_pure h
theorem fm_congr {α β : Type} {f g : α → Option β} : ∀ {l : List α}, (∀ x ∈ l, f x = g x) → l.filterMap f = l.filterMap g
  | [], _ => rfl
  | x :: r, h => by rw [List.filterMap_cons, List.filterMap_cons, h x (List.mem_cons_self ..), fm_congr fun y hy => h y (List.mem_cons_of_mem _ hy)]
theorem pick_rev (xs : Array Value) : ((List.range xs.size).filterMap fun (k : Nat) => xs[((xs.size : Int) - 1 + (k : Int) * (-1)).toNat]?).toArray = xs.toList.reverse.toArray := by
  have h := HT.pick_gen xs.toList.reverse.toArray 0 xs.size
  have e : (List.range xs.size).filterMap (fun (k : Nat) => xs[((xs.size : Int) - 1 + (k : Int) * (-1)).toNat]?) = (List.range xs.size).filterMap (fun (m : Nat) => xs.toList.reverse.toArray[(((0 : Nat) : Int) + (m : Int) * 1).toNat]?) := by
    refine fm_congr fun k hk => ?_
    have hk' := List.mem_range.mp hk
    have h1 : ((xs.size : Int) - 1 + (k : Int) * (-1)).toNat = xs.size - 1 - k := by omega
    have h2 : (((0 : Nat) : Int) + (k : Int) * 1).toNat = k := by omega
    rw [h1, h2]
    simp only [List.getElem?_toArray]
    rw [List.getElem?_reverse (by simpa using hk')]
    simp
  rw [e, h]
  congr 1
  rw [List.drop_zero, List.take_of_length_le (by simp)]
theorem getItem_tuple_rev {prog : Program} {w : World} {A : Around} {E : Value → Shared → Prop} {s : Shared} {t sl : Addr} {items : Array Value} {tk : Tok} {Q : Value → Shared → Prop} (ht : IsTup s.heap t items) (hs : s.heap.IsSliceOf sl .none .none (.int (-1) tk))
    (h : Q (.ref s.heap.objs.size) { s with heap := s.heap.push { cls := .type "tuple", data := .seq items.toList.reverse.toArray } }) (hsz : items.size ≤ sizeLine) : wpAny (model prog w) A (getItem (.ref t) (.ref sl)) Q E s := by
  have htake : sizeOk (.seq items.toList.reverse.toArray) := by
    show items.toList.reverse.toArray.size ≤ sizeLine
    rw [List.size_toArray, List.length_reverse, Array.length_toList]
    exact hsz
  obtain ⟨os, hos, hcs, hds⟩ := id hs
  have hTs : s.TypeIs (.ref sl) "slice" := ⟨os, hos, hcs⟩
  unfold getItem
  try with_reducible refine wpAny_holding ?_
  first | refine wpAny_bind (wpAny_pure ?_) | skip
  refine wpAny_bind (wpAny_sequenceKey ht.typeIs (by decide) ?_)
  refine wpAny_bind (wpAny_callSpecial?_slot (name := Str.ofString "__getitem__") ht.typeIs PyProof.Rows.slot_tuple_getitem
    (wpAny_call_entry PyProof.Rows.slot_tuple_getitem ht.typeIs entry_tuple_getitem ?_ (args_tuple_getitem _ _)))
  refine wpAny_bind (m := Builtin.Tuple.tupleItemsOf (.ref t)) (tupleItemsOf_ ht ?_)
  refine wpAny_bind (wpAny_typeOf hTs ?_)
  rw [if_pos (by decide)]
  refine wpAny_bind (sliceApplied_rev hs ?_)
  have hno : ¬ ((((items.size : Int) - 1) == 0 && (-1 : Int) == 1 && items.size == items.size) = true) := by simp
  show wpAny _ _ (if (((items.size : Int) - 1) == 0 && (-1 : Int) == 1 && items.size == items.size) = true then _ else _) _ _ s
  rw [if_neg hno, pick_rev]
  first
    | exact wpAny_bind (m := Builtin.Tuple.tupleExact _) (wpAny_newObj_type (wpAny_pure ⟨_, rfl, wpAny_pure h⟩) htake)
    | exact wpAny_bind (m := Builtin.Tuple.tupleExact _) (wpAny_newObj_type (wpAny_bind (wpAny_pure (wpAny_pure ⟨_, rfl, wpAny_pure h⟩))) htake)
    | exact wpAny_bind (wpAny_bind (m := Builtin.Tuple.tupleExact _) (wpAny_newObj_type (wpAny_pure (wpAny_pure ⟨_, rfl, wpAny_pure h⟩)) htake))
    | exact wpAny_bind (wpAny_bind (m := Builtin.Tuple.tupleExact _) (wpAny_newObj_type (wpAny_pure ⟨_, rfl, wpAny_pure h⟩) htake))
def tRev (K : PySem.W.Frag) (te ts : TE) : TE := fun σ H Q => te σ H fun x H1 => ts σ H1 fun y H2 => y = .int (-1) ∧ ∃ a xs, x = .ref a ∧ SqT K H2 a xs ∧ ∀ p, H2 p = none → Q (.ref p) (upd H2 p (.tup xs.reverse))
theorem pe_rev {e st : Expr} {te ts : TE} {pos p2 : Pos} (he : PE X e te) (hst : PE X st ts) : PE X (.Subscript e (.Slice none none (some st) p2) pos) (tRev X.K te ts) := by
  intro pins s σ H Q I h
  refine Subscript_ (thn (he pins s σ H _ I h) fun v s1 ⟨x, H1, I1, r1, q1⟩ => ?_)
  refine wpAny_Slice ?_
  rw [evalPart_none]
  refine wpAny_pure ?_
  show wpAny _ _ (evalPart none X.env) _ _ s1
  rw [evalPart_none]
  refine wpAny_pure ?_
  show wpAny _ _ (evalPart (some st) X.env) _ _ s1
  rw [evalPart_some]
  refine thn (hst pins s1 σ H1 _ I1 q1) fun vst s3 ⟨y, H3, I3, r3, q3⟩ => ?_
  obtain ⟨rfl, a, xs, rfl, hx, q⟩ := q3
  obtain ⟨tk, rfl⟩ := r3
  cases r1
  have I4 : Inv X pins σ H3 { s3 with heap := s3.heap.push { cls := .type "slice", data := .fields #[.none, .none, .int (-1) tk] } } := I3.kept (t' := s3.toks) fun b ob q => Heap.get?_push_of_some _ q
  obtain ⟨its, r, ht, hz⟩ := I4.tuple hx
  have hlen := r.length
  have hg : wpAny (model X.prog X.w) X.A (getItem (.ref a) (.ref s3.heap.objs.size)) (EP X pins σ Q) X.xe { s3 with heap := s3.heap.push { cls := .type "slice", data := .fields #[.none, .none, .int (-1) tk] } } := by
    refine getItem_tuple_rev ht (Heap.IsSliceOf.new ..) ?_ (by rw [List.size_toArray]; omega)
    refine ⟨.ref _, _, I4.laid (t' := s3.toks) (o := .tup xs.reverse) (fun b ob q => Heap.get?_push_of_some _ q) (Nat.le_refl _) ?_, rfl, q _ (I4.hok.fresh (Nat.le_refl _))⟩
    exact ⟨by rw [List.length_reverse]; exact hz, its.reverse, 0, r.reverse, Heap.get?_push_size _ rfl⟩
  show wpAny (model X.prog X.w) X.A (subscriptTail e (.Slice none none (some st) p2) (.ref a) (.ref s3.heap.objs.size)) (EP X pins σ Q) X.xe { s3 with heap := s3.heap.push { cls := .type "slice", data := .fields #[.none, .none, .int (-1) tk] } }
  exact tail_any (ops := [.ref a, .ref s3.heap.objs.size]) ht.typeIs PyProof.Rows.slot_tuple_getitem.lookup hg (by with_unfolding_all rfl)
end
end L2
set_option Elab.async false
set_option linter.all false
set_option maxRecDepth 100000
namespace L2
open PySem PySem.Spec PyProof.Rows
def Vw (S : List Addr) (H : Hp) : Hp := fun b => if b ∈ S then none else H b
theorem Vw.out {S : List Addr} {H : Hp} {b : Addr} (n : b ∉ S) : Vw S H b = H b := by unfold Vw; rw [if_neg n]
theorem Vw.sub {S : List Addr} {H : Hp} : Same (Vw S H) H := fun b o h => by
  by_cases z : b ∈ S
  · unfold Vw at h; rw [if_pos z] at h; cases h
  · rw [Vw.out z] at h; exact h
theorem Vw.keep {S : List Addr} {H H' : Hp} (e : ∀ b o, b ∉ S → H b = some o → H' b = some o) : Same (Vw S H) (Vw S H') := fun b o h => by
  by_cases z : b ∈ S
  · unfold Vw at h; rw [if_pos z] at h; cases h
  · rw [Vw.out z] at h ⊢; exact e b o z h
theorem Vw.same {S : List Addr} {H H' : Hp} (e : Same H H') : Same (Vw S H) (Vw S H') := Vw.keep fun b o _ h => e b o h
def Fx (S : List Addr) (H : Hp) : Prop := ∀ b ∈ S, ∃ xs, H b = some (.lst xs)
theorem Fx.same {S : List Addr} {H H' : Hp} (f : Fx S H) (e : Same H H') : Fx S H' := fun b hb => let ⟨xs, h⟩ := f b hb; ⟨xs, e b _ h⟩
theorem Fx.new {S : List Addr} {H : Hp} {p : Addr} (f : Fx S H) (h : H p = none) : p ∉ S := fun z => by
  obtain ⟨xs, q⟩ := f p z
  rw [q] at h; cases h
theorem Fx.nil {H : Hp} : Fx [] H := fun _ h => (List.not_mem_nil h).elim
section
variable {K : PySem.W.Frag} {S : List Addr} {H H' H0 : Hp}
theorem Fx.seqT {a : Addr} {xs : List V} (f : Fx S H) (h : SqT K H a xs) : SqT K (Vw S H) a xs := by
  rcases h with (h | ⟨o, h⟩) | h
  · exact .inl (.inl (by rw [Vw.out fun z => by obtain ⟨ys, q⟩ := f a z; rw [q] at h; cases h]; exact h))
  · exact .inl (.inr ⟨o, by rw [Vw.out fun z => by obtain ⟨ys, q⟩ := f a z; rw [q] at h; cases h]; exact h⟩)
  · exact .inr h
theorem Vw.at {p : Addr} {o : HO} (f : Fx S H) (h : H p = none) : Vw S (upd H p o) p = some o := by rw [Vw.out (f.new h)]; exact upd_same
def Dn (K : PySem.W.Frag) (S : List Addr) (H : Hp) (x : V) : Prop := ∃ d, Den K (Vw S H) d x
def DT (K : PySem.W.Frag) (S : List Addr) (n : Nat) (H : Hp) (x : V) : Prop := ∃ a xs, x = .ref a ∧ SqT K (Vw S H) a xs ∧ xs.length ≤ n ∧ ∀ y ∈ xs, Dn K S H y
def II (_ : Hp) (x : V) : Prop := ∃ i, x = .int i
class Mo (R : Hp → V → Prop) : Prop where
  mo : ∀ {H H' : Hp} {v : V}, Same H H' → R H v → R H' v
theorem Dn.keep {x : V} (h : Dn K S H x) (e : Same (Vw S H) (Vw S H')) : Dn K S H' x := let ⟨d, h⟩ := h; ⟨d, e.den _ _ h⟩
theorem Dn.same {x : V} (h : Dn K S H x) (e : Same H H') : Dn K S H' x := h.keep (Vw.same e)
theorem DT.keep {n : Nat} {x : V} (h : DT K S n H x) (e : Same (Vw S H) (Vw S H')) : DT K S n H' x := let ⟨a, xs, h1, h2, h3, h4⟩ := h; ⟨a, xs, h1, e.seqT h2, h3, fun y hy => (h4 y hy).keep e⟩
theorem DT.same {n : Nat} {x : V} (h : DT K S n H x) (e : Same H H') : DT K S n H' x := h.keep (Vw.same e)
instance : Mo (Dn K S) := ⟨fun e h => Dn.same h e⟩
instance {n : Nat} : Mo (DT K S n) := ⟨fun e h => DT.same h e⟩
instance : Mo II := ⟨fun _ h => h⟩
theorem dn_int (i : Int) : Dn K S H (.int i) := ⟨.int i, den_int.mpr rfl⟩
theorem II.dn {x : V} (h : II H x) : Dn K S H x := let ⟨i, h⟩ := h; h ▸ dn_int i
theorem dn_all : ∀ {xs : List V}, (∀ x ∈ xs, Dn K S H x) → ∃ ds, DenAll K (Vw S H) ds xs
  | [], _ => ⟨[], denAll_nil.mpr rfl⟩
  | x :: r, h => by
    obtain ⟨d, hd⟩ := h x (List.mem_cons_self ..)
    obtain ⟨ds, hds⟩ := dn_all (xs := r) fun y hy => h y (List.mem_cons_of_mem _ hy)
    exact ⟨d :: ds, denAll_cons.mpr ⟨x, r, rfl, hd, hds⟩⟩
theorem DT.dn {n : Nat} {x : V} (h : DT K S n H x) : Dn K S H x := by
  obtain ⟨a, xs, rfl, h2, _, h4⟩ := h
  obtain ⟨ds, hds⟩ := dn_all h4
  exact ⟨.tuple ds, den_tuple.mpr ⟨a, xs, rfl, h2, hds⟩⟩
theorem dn_ints {l : List Int} : ∀ x ∈ l.map V.int, Dn K S H x := fun x hx => by
  obtain ⟨i, _, rfl⟩ := List.mem_map.mp hx
  exact dn_int i
theorem DT.ints {a : Addr} {l : List Int} {n : Nat} (f : Fx S H) (h : SqT K H a (l.map V.int)) (hn : l.length ≤ n) : DT K S n H (.ref a) := ⟨a, _, rfl, f.seqT h, by rw [List.length_map]; exact hn, dn_ints⟩
def Al (H0 : Hp) (S : List Addr) (te : TE) (σ : St) (R : Hp → V → Prop) : Prop := ∀ H, Same H0 H → Fx S H → ∀ Q : VK, (∀ v H', Same H H' → R H' v → Q v H') → te σ H Q
def AlO (H0 : Hp) (S : List Addr) (t : TO) (σ : St) : Prop := ∀ H, Same H0 H → Fx S H → ∀ Q : Option Int → Hp → Prop, (∀ o H', Same H H' → Q o H') → t σ H Q
variable {σ : St} {R R' : Hp → V → Prop} {te ta tb ts : TE} {t tr : TA} {tl th : TO}
theorem al_var {i : Nat} {v : V} [m : Mo R] (h : σ[i]? = some (some v)) (r : R H0 v) : Al H0 S (tVar i) σ R := fun H s _ Q k => ⟨v, h, k v H (Same.refl H) (m.mo s r)⟩
theorem al_c {v : V} [m : Mo R] (r : R H0 v) : Al H0 S (tC v) σ R := fun H s _ Q k => k v H (Same.refl H) (m.mo s r)
theorem Al.mono (h : Al H0 S te σ R) (m : ∀ H v, R H v → R' H v) : Al H0 S te σ R' := fun H s f Q k => h H s f Q fun v H' s' r => k v H' s' (m H' v r)
theorem al_int {i : Int} : Al H0 S (tC (.int i)) σ II := al_c ⟨i, rfl⟩
theorem Al.i (h : Al H0 S te σ II) : Al H0 S te σ (Dn K S) := h.mono fun _ _ r => r.dn
theorem Al.d {n : Nat} (h : Al H0 S te σ (DT K S n)) : Al H0 S te σ (Dn K S) := h.mono fun _ _ r => r.dn
def rCat2 (K : PySem.W.Frag) : R2 := fun x y H Q => ∃ a b xs ys, x = .ref a ∧ y = .ref b ∧ SqT K H a xs ∧ SqT K H b ys ∧ xs.length + ys.length ≤ sizeLine ∧ ∀ p H', Same H H' → SqT K H' p (xs ++ ys) → Q (.ref p) H'
theorem op_cat2K {X : Cx} (hK : X.K = K) : OpR X (binaryOp .Add) (rCat2 K) := by subst hK; exact op_cat2
def rSl2 (K : PySem.W.Frag) : V → Option Int → Option Int → Hp → VK → Prop := fun x lo hi H Q => ∃ a xs, x = .ref a ∧ SqT K H a xs ∧ ∀ p H', Same H H' → SqT K H' p (cutV xs lo hi) → Q (.ref p) H'
theorem sl_tup2K {X : Cx} (hK : X.K = K) : SlR X (rSl2 K) := by subst hK; exact sl_tup2
def rListOf (K : PySem.W.Frag) : List V → Hp → VK → Prop := fun xs H Q => ∃ p ys, xs = [.ref p] ∧ (SqL K H p ys ∨ SqT K H p ys) ∧ ∀ l, H l = none → Q (.ref l) (upd H l (.lst ys))
theorem call_list_ofK {X : Cx} (hK : X.K = K) : CallR X (.type "list") (rListOf K) := by subst hK; exact call_list_of
theorem cutV_mem {xs : List V} {lo hi : Option Int} {x : V} (h : x ∈ cutV xs lo hi) : x ∈ xs := List.mem_of_mem_drop (List.mem_of_mem_take h)
theorem cutV_len {xs : List V} {lo hi : Option Int} : (cutV xs lo hi).length ≤ xs.length := by
  unfold cutV
  rw [List.length_take, List.length_drop]
  omega
theorem alO_none : AlO H0 S tNoPart σ := fun H _ _ Q k => k none H (Same.refl H)
theorem alO_some (h : Al H0 S te σ II) : AlO H0 S (tPart te) σ := fun H s f Q k => h H s f _ fun v H' s' ⟨i, e⟩ => ⟨i, e, k _ H' s'⟩
theorem al_neg1 : Al H0 S (tUn (rU fun i => .int (-i)) (tC (.int 1))) σ fun _ v => v = .int (-1) := fun H s f Q k => ⟨1, rfl, k _ H (Same.refl H) rfl⟩
theorem al_un {g : Int → Int} (h : Al H0 S te σ II) : Al H0 S (tUn (rU fun i => .int (g i)) te) σ II := fun H s f Q k => h H s f _ fun v H1 s1 ⟨i, e⟩ => ⟨i, e, k _ H1 s1 ⟨_, rfl⟩⟩
theorem al_op0 {g : Int → Int → Int} (ha : Al H0 S ta σ II) (hb : Al H0 S tb σ II) : Al H0 S (tOp (rI0 fun i j => .int (g i j)) ta tb) σ II := fun H s f Q k => ha H s f _ fun v H1 s1 ⟨i, e⟩ => hb H1 (s.trans s1) (f.same s1) _ fun u H2 s2 ⟨j, e'⟩ => ⟨i, j, e, e', k _ H2 (s1.trans s2) ⟨_, rfl⟩⟩
theorem al_ixT {xs : List V} {a : Addr} {i : Int} {x : V} [m : Mo R] (ha : Al H0 S ta σ fun H v => v = .ref a ∧ SqT K H a xs) (hb : Al H0 S tb σ fun _ v => v = .int i) (hx : atI xs i = some x) (r : R H0 x) : Al H0 S (tOp (rIxT K) ta tb) σ R := fun H s f Q k => ha H s f _ fun v H1 s1 ⟨e, h⟩ => hb H1 (s.trans s1) (f.same s1) _ fun u H2 s2 e' =>
  ⟨a, xs, i, x, e, e', s2.seqT h, hx, k _ H2 (s1.trans s2) (m.mo (s.trans (s1.trans s2)) r)⟩
instance {a : Addr} {xs : List V} : Mo (fun H v => v = .ref a ∧ SqT K H a xs) := ⟨fun e h => ⟨h.1, e.seqT h.2⟩⟩
instance {x : V} : Mo (fun _ v => v = x) := ⟨fun _ h => h⟩
theorem al_go {Q : VK} (f : Fx S H) (h : Al H S te σ R) (k : ∀ v H', Same H H' → R H' v → Q v H') : te σ H Q := h H (Same.refl H) f Q k
end
end L2
set_option Elab.async false
set_option linter.all false
set_option maxRecDepth 100000
namespace L2
open PySem PySem.Spec PyProof.Rows
open PySem.AutoSeq1 (wpAny_loadPart')
theorem nf {b : Bool} (h : b = false) : decide (b = true) = false := by rw [h]; rfl
theorem tuple_mul_some (l : Addr) (items : Array Value) (n : Nat) (dd : Option Addr) (sl : Array (Option Value)) (x : Int) (u : Tok) (h1 : 1 < x) (h2 : x ≤ 1000) (hne : items.isEmpty = false) (hz : items.size ≤ 1000) :
    Meets (Builtin.«tuple.__mul__» ⟨[.ref l, .int x u], []⟩) (fun _ R s => s.heap.get? l = some { cls := .type "tuple", dict := dd, data := .seq items n, slots := sl } ∧ R (.ok (.ret (Value.ref s.heap.objs.size))) { s with heap := s.heap.push { cls := Value.type "tuple", data := Data.seq (List.foldl (fun x1 x2 => x1 ++ x2) #[] (List.replicate x.toNat items)) }, toks := s.toks }) :=
  .of_wp fun prog w A R s h => by
    obtain ⟨hp, g, d, tk, os⟩ := s
    obtain ⟨hl, h⟩ := h
    have f1 := AutoSeq1.idx_int
    have f2 := AutoSeq1.sub_tuple_tuple
    wp_walk using wpAny_loadPart' hl
    refine wpAny_ite_false (nf (show (decide (x < -2 ^ 63) || decide (x ≥ 2 ^ 63)) = false from by rw [decide_eq_false (show ¬ x < -2 ^ 63 by omega), decide_eq_false (show ¬ x ≥ 2 ^ 63 by omega)]; rfl)) ?_
    wp_walk using wpAny_loadPart' hl
    refine wpAny_ite_false (nf (show (items.isEmpty || x == 1) = false from by rw [hne, beq_eq_false_iff_ne.mpr (show x ≠ 1 by omega)]; rfl)) ?_
    wp_walk using wpAny_loadPart' hl
    refine wpAny_ite_false (nf (show (decide (x ≤ 0) || items.isEmpty) = false from by rw [hne, decide_eq_false (show ¬ x ≤ 0 by omega)]; rfl)) ?_
    wp_walk using wpAny_loadPart' hl
    have hm : (items.size : Int) * x ≤ 1000 * 1000 := Int.mul_le_mul (by omega) h2 (by omega) (by omega)
    refine wpAny_ite_false (decide_eq_false (show ¬ (items.size : Int) * x > (2 ^ 63 - 1) / 8 by omega)) ?_
    wp_walk using wpAny_loadPart' hl
    refine wpAny_ite_false (nf (show decide ((items.size : Int) * x > (sizeLine : Int)) = false from decide_eq_false (by rw [sizeLine_eq]; omega))) ?_
    have hsz : ¬ (List.foldl (fun x1 x2 => x1 ++ x2) #[] (List.replicate x.toNat items)).size > sizeLine := by
      have e := foldl_rep items.toList x.toNat []
      rw [List.nil_append] at e
      have e2 : List.foldl (fun x1 x2 => x1 ++ x2) #[] (List.replicate x.toNat items) = (List.replicate x.toNat items.toList).flatten.toArray := e
      rw [e2, List.size_toArray, len_rep, Array.length_toList, sizeLine_eq]
      have : x.toNat * items.size ≤ 1000 * 1000 := Nat.mul_le_mul (by omega) hz
      omega
    wp_walk using wpAny_loadPart' hl
    exact ⟨_, rfl, h⟩
theorem tuple_mul_none (l : Addr) (items : Array Value) (n : Nat) (dd : Option Addr) (sl : Array (Option Value)) (x : Int) (u : Tok) (h1 : 1 < x) (h2 : x ≤ 1000) (hne : items.isEmpty = true) :
    Meets (Builtin.«tuple.__mul__» ⟨[.ref l, .int x u], []⟩) (fun _ R s => s.heap.get? l = some { cls := .type "tuple", dict := dd, data := .seq items n, slots := sl } ∧ R (.ok (.ret (Value.ref l))) s) :=
  .of_wp fun prog w A R s h => by
    obtain ⟨hp, g, d, tk, os⟩ := s
    obtain ⟨hl, h⟩ := h
    have f1 := AutoSeq1.idx_int
    have f2 := AutoSeq1.sub_tuple_tuple
    wp_walk using wpAny_loadPart' hl
    refine wpAny_ite_false (nf (show (decide (x < -2 ^ 63) || decide (x ≥ 2 ^ 63)) = false from by rw [decide_eq_false (show ¬ x < -2 ^ 63 by omega), decide_eq_false (show ¬ x ≥ 2 ^ 63 by omega)]; rfl)) ?_
    wp_walk using wpAny_loadPart' hl
    exact ⟨_, rfl, h⟩
theorem noFill_tuple_mul : fillsNumberSlot (.type "tuple") "mul" = pure false :=
  PySem.fillsNumberSlot_seq (id := "tuple.__mul__") (r := some (.builtin "tuple.__rmul__")) PySem.F.slot_tuple_mul.lookup (by decide +kernel) PySem.F.slot_tuple_rmul.lookup (by decide +kernel)
theorem repeat_tuple : seqRepeat? (.type "tuple") = pure (some (.builtin "tuple.__mul__")) := by
  unfold seqRepeat?
  rw [PySem.seqSlot_of (T := "tuple") (name := "__mul__") (id := "tuple.__mul__") PySem.F.slot_tuple_mul.lookup (by decide +kernel), PySem.seqSlot_of (T := "tuple") (name := "__rmul__") (id := "tuple.__rmul__") PySem.F.slot_tuple_rmul.lookup (by decide +kernel)]
  rfl
theorem int_rmul_tuple (a : Int) (t : Tok) (l : Addr) (items : Array Value) (n : Nat) (dd : Option Addr) (sl : Array (Option Value)) :
    Meets (Builtin.«int.__rmul__» ⟨[.int a t, .ref l], []⟩) (fun _ R s => s.heap.get? l = some { cls := .type "tuple", dict := dd, data := .seq items n, slots := sl } ∧ R (.ok (.ret Value.notImplemented)) s) :=
  .of_wp fun prog w A R s h => by
    obtain ⟨hp, g, d, tk, os⟩ := s
    obtain ⟨hl, h⟩ := h
    wp_walk using wpAny_loadPart' hl
    exact ⟨_, rfl, h⟩
def rRepT (K : PySem.W.Frag) : R2 := fun x y H Q => ∃ a k xs, x = .ref a ∧ y = .int k ∧ SqT K H a xs ∧ 1 < k ∧ k ≤ 1000 ∧ xs.length ≤ 1000 ∧ ∀ p H', Same H H' → SqT K H' p (List.replicate k.toNat xs).flatten → Q (.ref p) H'
theorem op_repT {X : Cx} {K : PySem.W.Frag} (hK : X.K = K) : OpR X (binaryOp .Mult) (rRepT K) := by
  subst hK
  intro pins s σ H x y v u Q I rx ry h
  obtain ⟨a, k, xs, rfl, rfl, ha, h1, h2, hz, q⟩ := h
  cases rx
  obtain ⟨t, rfl⟩ := ry
  obtain ⟨its, r, ⟨⟨cls, dd, data, sl⟩, ho, hc, n, hd⟩, hzz⟩ := I.tuple ha
  simp only at hc hd
  subst hc hd
  have hl := r.length
  refine wpAny_binaryOp_repeat_ref (T := "tuple") (U := "int") (by decide) ⟨_, ho, rfl⟩ (fun s' => typeIs_int s' k t) noFill_tuple_mul PySem.F.fills_int_mul PySem.F.slot_int_rmul repeat_tuple PySem.F.slot_int_index.lookup
    (call_meets PySem.F.slot_int_rmul (typeIs_int s k t) PySem.F.entry_int_rmul (PySem.F.args_int_rmul_2 _ _) (int_rmul_tuple k t a its.toArray n dd sl) ⟨ho, rfl, ⟨_, ho, rfl⟩, ?_⟩)
  by_cases hx : xs = []
  · subst hx
    cases r
    refine call_meets PySem.F.slot_tuple_mul ⟨_, ho, rfl⟩ PySem.F.entry_tuple_mul (PySem.F.args_tuple_mul_2 _ _) (tuple_mul_none a _ n dd sl k t h1 h2 rfl) ⟨ho, ?_⟩
    exact ⟨.ref a, H, I, rfl, q a H (Same.refl H) (by rw [List.flatten_replicate_nil]; exact ha)⟩
  · have hne : its.toArray.isEmpty = false := by
      cases its with
      | nil => cases r; exact absurd rfl hx
      | cons _ _ => rfl
    refine call_meets PySem.F.slot_tuple_mul ⟨_, ho, rfl⟩ PySem.F.entry_tuple_mul (PySem.F.args_tuple_mul_2 _ _) (tuple_mul_some a its.toArray n dd sl k t h1 h2 hne (by rw [List.size_toArray]; omega)) ⟨ho, ?_⟩
    have hnew : List.foldl (fun x1 x2 => x1 ++ x2) #[] (List.replicate k.toNat its.toArray) = (List.replicate k.toNat its).flatten.toArray := by
      have := foldl_rep its k.toNat []
      rw [List.nil_append] at this
      exact this
    rw [hnew]
    have hlen : (List.replicate k.toNat xs).flatten.length ≤ sizeLine := by
      rw [len_rep, sizeLine_eq]
      have : k.toNat * xs.length ≤ 1000 * 1000 := Nat.mul_le_mul (by omega) hz
      omega
    refine ⟨.ref _, _, I.laid (t' := s.toks) (o := .tup (List.replicate k.toNat xs).flatten) (fun b ob q => Heap.get?_push_of_some _ q) (Nat.le_refl _) ?_, rfl, q _ _ (Same.new (I.hok.fresh (Nat.le_refl _))) (SqT.of upd_same)⟩
    exact ⟨hlen, (List.replicate k.toNat its).flatten, 0, r.rep k.toNat, Heap.get?_push_size _ rfl⟩
section
variable {X : Cx} {pins : List (Addr × Obj)} {σ : St} {H : Hp} {s : Shared}
theorem Inv.low (I : Inv X pins σ H s) : H sysModules = none := by
  obtain ⟨mm, o, es, ep, e, _⟩ := I.mod.mods
  exact (I.bs _ _ e).2
mutual
theorem Den.readsS (I : Inv X pins σ H s) (hK : X.K.lookup sysModules = none) : ∀ (d : PyData) (v : V) (u : Value), Den X.K H d v → RelV v u → ∃ as, Reads s.heap u d as ∧ sysModules ∉ as
  | .none, v, u, h, r => by rw [den_none.mp h] at r; cases r; exact ⟨_, .none, by simp⟩
  | .bool b, v, u, h, r => by rw [den_bool.mp h] at r; cases r; exact ⟨_, .bool b, by simp⟩
  | .int i, v, u, h, r => by rw [den_int.mp h] at r; obtain ⟨t, rfl⟩ := r; exact ⟨_, .int i t, by simp⟩
  | .str x, v, u, h, r => by rw [den_str.mp h] at r; obtain ⟨t, rfl⟩ := r; exact ⟨_, .str x t, by simp⟩
  | .list ds, v, u, h, r => by
    obtain ⟨a, xs, rfl, h1, h2⟩ := den_list.mp h
    cases r
    have na : sysModules ≠ a := fun z => by
      rcases h1 with (h1 | ⟨o, h1⟩) | ⟨o, _, _, h1, _⟩
      · rw [← z, I.low] at h1; cases h1
      · rw [← z, I.low] at h1; cases h1
      · rw [← z, hK] at h1; cases h1
    obtain ⟨its, rv, ⟨o, n, e, c, _, d⟩, _⟩ := I.list h1
    obtain ⟨as, ra, na2⟩ := DenAll.readsS I hK ds xs its h2 rv
    exact ⟨_, .list e c d (by simpa using ra), by simp [na, na2]⟩
  | .tuple ds, v, u, h, r => by
    obtain ⟨a, xs, rfl, h1, h2⟩ := den_tuple.mp h
    cases r
    obtain ⟨its, rv, ⟨o, e, c, n, d⟩, _⟩ := I.tuple h1
    obtain ⟨as, ra, na2⟩ := DenAll.readsS I hK ds xs its h2 rv
    exact ⟨_, .tuple e c d (by simpa using ra), na2⟩
  | .dict kvs, v, u, h, r => by
    obtain ⟨rfl, a, rfl, h1⟩ := den_dict.mp h
    cases r
    obtain ⟨_, na, vs, kv, o, es, ep, e, ex, hd, ks, ps, _⟩ := I.hok a _ h1
    cases kv
    have e0 : es.toList = [] := by
      cases q : es.toList with
      | nil => rfl
      | cons _ _ => rw [q] at ps; cases ps
    have na' : sysModules ≠ a := fun z => by rw [z] at na; simp at na
    exact ⟨_, .dict (as := []) (bs := []) e ex.1 hd (by rw [e0]; exact .nil) (by rw [e0]; exact .nil), by simp [na']⟩
theorem DenAll.readsS (I : Inv X pins σ H s) (hK : X.K.lookup sysModules = none) : ∀ (ds : List PyData) (xs : List V) (us : List Value), DenAll X.K H ds xs → Vals xs us → ∃ as, ReadsAll s.heap us ds as ∧ sysModules ∉ as
  | [], xs, us, h, r => by rw [denAll_nil.mp h] at r; cases r; exact ⟨_, .nil, by simp⟩
  | d :: ds, xs, us, h, r => by
    obtain ⟨x, rr, rfl, h2, h3⟩ := denAll_cons.mp h
    cases r with
    | cons r1 r2 =>
      obtain ⟨as, ra, na⟩ := Den.readsS I hK d x _ h2 r1
      obtain ⟨bs, rb, nb⟩ := DenAll.readsS I hK ds rr _ h3 r2
      exact ⟨_, .cons ra rb, by simp [na, nb]⟩
end
def rRepr (K : PySem.W.Frag) : List V → Hp → VK → Prop := fun xs H Q => ∃ d x, xs = [x] ∧ Den K H d x ∧ d.showable = true ∧ d.depth ≤ 60 ∧ d.shown.length ≤ sizeLine ∧ Q (.str d.shown) H
theorem call_reprD (hg : X.A.guards = some []) (hu : X.A.units + 64 < cLine) (hK : X.K.lookup sysModules = none) : CallR X (.builtin "repr") (rRepr X.K) := by
  intro pins s σ H xs us Q I r h
  obtain ⟨d, x, rfl, hd, h3, h4, h5, q⟩ := h
  obtain ⟨u, rfl, rx⟩ := vals1 r
  cases d with
  | none => rw [den_none.mp hd] at rx; cases rx; exact PySem.P.repr_of_none ⟨.str _, H, I.tok _, ⟨_, rfl⟩, q⟩
  | bool b => rw [den_bool.mp hd] at rx; cases rx; exact PySem.P.repr_of_bool ⟨.str _, H, I.tok _, ⟨_, rfl⟩, q⟩
  | int i => rw [den_int.mp hd] at rx; obtain ⟨t, rfl⟩ := rx; exact PySem.P.repr_of_int (by unfold PyData.showable at h3; exact of_decide_eq_true h3) ⟨.str _, H, I.tok _, ⟨_, rfl⟩, q⟩
  | str x => rw [den_str.mp hd] at rx; obtain ⟨t, rfl⟩ := rx; exact PySem.P.repr_of_str ⟨.str _, H, I.tok _, ⟨_, rfl⟩, q⟩ h5
  | list ds =>
    obtain ⟨as, rd, na⟩ := Den.readsS I hK _ _ _ hd rx
    obtain ⟨a, xs, rfl, _⟩ := den_list.mp hd
    cases rx
    exact repr_of_reads' rd h3 (fun _ => na) hg (by omega) (fun _ _ e => e) (fun h' u tk kp => ⟨.str _, H, I.kept kp, ⟨_, rfl⟩, q⟩) h5
  | tuple ds =>
    obtain ⟨as, rd, na⟩ := Den.readsS I hK _ _ _ hd rx
    obtain ⟨a, xs, rfl, _⟩ := den_tuple.mp hd
    cases rx
    exact repr_of_reads' rd h3 (fun _ => na) hg (by omega) (fun _ _ e => e) (fun h' u tk kp => ⟨.str _, H, I.kept kp, ⟨_, rfl⟩, q⟩) h5
  | dict ds =>
    obtain ⟨as, rd, na⟩ := Den.readsS I hK _ _ _ hd rx
    obtain ⟨_, a, rfl, _⟩ := den_dict.mp hd
    cases rx
    exact repr_of_reads' rd h3 (fun _ => na) hg (by omega) (fun _ _ e => e) (fun h' u tk kp => ⟨.str _, H, I.kept kp, ⟨_, rfl⟩, q⟩) h5
end

section
variable {K : PySem.W.Frag} {S : List Addr} {H H' H0 : Hp} {E E' : Hp → V → Prop}
def DTe (K : PySem.W.Frag) (S : List Addr) (E : Hp → V → Prop) (n : Nat) (H : Hp) (x : V) : Prop := ∃ a xs, x = .ref a ∧ SqT K (Vw S H) a xs ∧ xs.length ≤ n ∧ ∀ y ∈ xs, E H y
def LTe (S : List Addr) (E : Hp → V → Prop) (n : Nat) (H : Hp) (x : V) : Prop := ∃ a xs, x = .ref a ∧ Vw S H a = some (.lst xs) ∧ xs.length ≤ n ∧ ∀ y ∈ xs, E H y
instance {n : Nat} [m : Mo E] : Mo (DTe K S E n) := ⟨fun e ⟨a, xs, h1, h2, h3, h4⟩ => ⟨a, xs, h1, (Vw.same e).seqT h2, h3, fun y hy => m.mo e (h4 y hy)⟩⟩
instance {n : Nat} [m : Mo E] : Mo (LTe S E n) := ⟨fun e ⟨a, xs, h1, h2, h3, h4⟩ => ⟨a, xs, h1, Vw.same e _ _ h2, h3, fun y hy => m.mo e (h4 y hy)⟩⟩
def AlE (H0 : Hp) (S : List Addr) (E : Hp → V → Prop) (n : Nat) (t : TA) (σ : St) : Prop := ∀ H, Same H0 H → Fx S H → ∀ Q : List V → Hp → Prop, (∀ vs H', Same H H' → vs.length = n → (∀ v ∈ vs, E H' v) → Q vs H') → t σ H Q
variable {σ : St} {te ta tb ts : TE} {t tr : TA} {tl th : TO}
theorem alE_nil : AlE H0 S E 0 tNil σ := fun H _ _ Q k => k [] H (Same.refl H) rfl (fun _ h => (List.not_mem_nil h).elim)
theorem alE_cons {n : Nat} [m : Mo E] (h : Al H0 S te σ E) (r : AlE H0 S E n tr σ) : AlE H0 S E (n + 1) (tCons te tr) σ := fun H s f Q k => h H s f _ fun v H1 s1 d1 => r H1 (s.trans s1) (f.same s1) _ fun vs H2 s2 l d2 =>
  k (v :: vs) H2 (s1.trans s2) (by rw [List.length_cons, l]) fun x hx => by
    rcases List.mem_cons.mp hx with rfl | hx
    · exact m.mo s2 d1
    · exact d2 x hx
theorem alE_tup {n : Nat} [m : Mo E] (h : AlE H0 S E n t σ) (hn : n ≤ 1000 := by decide) : Al H0 S (tTup t) σ (DTe K S E n) := fun H s f Q k => h H s f _ fun vs H1 s1 l d => ⟨by rw [l]; exact Nat.le_of_lt (small1000 hn), fun p hp =>
  k (.ref p) _ (s1.trans (Same.new hp)) ⟨p, vs, rfl, SqT.of (Vw.at (f.same s1) hp), by rw [l]; exact Nat.le_refl _, fun y hy => m.mo (Same.new hp) (d y hy)⟩⟩
theorem alE_lst {n : Nat} [m : Mo E] (h : AlE H0 S E n t σ) (hn : n ≤ 1000 := by decide) : Al H0 S (tLst t) σ (LTe S E n) := fun H s f Q k => h H s f _ fun vs H1 s1 l d => ⟨by rw [l]; exact Nat.le_of_lt (small1000 hn), fun p hp =>
  k (.ref p) _ (s1.trans (Same.new hp)) ⟨p, vs, rfl, Vw.at (f.same s1) hp, by rw [l]; exact Nat.le_refl _, fun y hy => m.mo (Same.new hp) (d y hy)⟩⟩
theorem alE_cat {n m : Nat} [M : Mo E] (ha : Al H0 S ta σ (DTe K S E n)) (hb : Al H0 S tb σ (DTe K S E m)) (hn : n + m ≤ 1000 := by decide) : Al H0 S (tOp (rCat2 K) ta tb) σ (DTe K S E (n + m)) := fun H s f Q k => ha H s f _ fun v H1 s1 d1 => hb H1 (s.trans s1) (f.same s1) _ fun u H2 s2 d2 => by
  have d1' : DTe K S E n H2 v := Mo.mo s2 d1
  obtain ⟨a, xs, rfl, ha, la, da⟩ := d1'
  obtain ⟨b, ys, rfl, hb, lb, db⟩ := d2
  have f2 := (f.same s1).same s2
  refine ⟨a, b, xs, ys, rfl, rfl, Vw.sub.seqT ha, Vw.sub.seqT hb, Nat.le_of_lt (small1000 (by omega)), fun p H' s' hp => k _ H' (s1.trans (s2.trans s')) ⟨p, xs ++ ys, rfl, (f2.same s').seqT hp, by rw [List.length_append]; omega, fun y hy => ?_⟩⟩
  rcases List.mem_append.mp hy with hy | hy
  · exact M.mo s' (da y hy)
  · exact M.mo s' (db y hy)
theorem alE_catL {n m : Nat} [M : Mo E] (ha : Al H0 S ta σ (LTe S E n)) (hb : Al H0 S tb σ (LTe S E m)) (hn : n + m ≤ 1000 := by decide) : Al H0 S (tOp rCat ta tb) σ (LTe S E (n + m)) := fun H s f Q k => ha H s f _ fun v H1 s1 d1 => hb H1 (s.trans s1) (f.same s1) _ fun u H2 s2 d2 => by
  have d1' : LTe S E n H2 v := Mo.mo s2 d1
  obtain ⟨a, xs, rfl, ha, la, da⟩ := d1'
  obtain ⟨b, ys, rfl, hb, lb, db⟩ := d2
  have f2 := (f.same s1).same s2
  refine ⟨a, b, xs, ys, rfl, rfl, Vw.sub _ _ ha, Vw.sub _ _ hb, Nat.le_of_lt (small1000 (by omega)), fun p hp => k _ _ (s1.trans (s2.trans (Same.new hp))) ⟨p, xs ++ ys, rfl, Vw.at f2 hp, by rw [List.length_append]; omega, fun y hy => ?_⟩⟩
  rcases List.mem_append.mp hy with hy | hy
  · exact M.mo (Same.new hp) (da y hy)
  · exact M.mo (Same.new hp) (db y hy)
theorem alE_slice {n : Nat} [M : Mo E] (h : Al H0 S te σ (DTe K S E n)) (hl : AlO H0 S tl σ) (hh : AlO H0 S th σ) : Al H0 S (tSl (rSl2 K) te tl th) σ (DTe K S E n) := fun H s f Q k => h H s f _ fun v H1 s1 d1 => hl H1 (s.trans s1) (f.same s1) _ fun lo H2 s2 => hh H2 ((s.trans s1).trans s2) ((f.same s1).same s2) _ fun hi H3 s3 => by
  have d3 : DTe K S E n H3 v := Mo.mo s3 (Mo.mo s2 d1)
  obtain ⟨a, xs, rfl, ha, la, da⟩ := d3
  have f3 := ((f.same s1).same s2).same s3
  exact ⟨a, xs, rfl, Vw.sub.seqT ha, fun p H' s' hp => k _ H' (s1.trans (s2.trans (s3.trans s'))) ⟨p, _, rfl, (f3.same s').seqT hp, Nat.le_trans cutV_len la, fun y hy => M.mo s' (da y (cutV_mem hy))⟩⟩
theorem alE_sliceTo {n c : Nat} [M : Mo E] (h : Al H0 S te σ (DTe K S E n)) : Al H0 S (tSl (rSl2 K) te tNoPart (tPart (tC (.int c)))) σ (DTe K S E c) := fun H s f Q k => h H s f _ fun v H1 s1 d1 => ⟨(c : Int), rfl, by
  obtain ⟨a, xs, rfl, ha, la, da⟩ := d1
  have f1 := f.same s1
  refine ⟨a, xs, rfl, Vw.sub.seqT ha, fun p H' s' hp => k _ H' (s1.trans s') ⟨p, _, rfl, (f1.same s').seqT hp, ?_, fun y hy => M.mo s' (da y (cutV_mem hy))⟩⟩
  rw [cutV_to, List.length_take]
  omega⟩
theorem alE_rev {n : Nat} [M : Mo E] (h : Al H0 S te σ (DTe K S E n)) (hs : Al H0 S ts σ fun _ v => v = .int (-1)) : Al H0 S (tRev K te ts) σ (DTe K S E n) := fun H s f Q k => h H s f _ fun v H1 s1 d1 => hs H1 (s.trans s1) (f.same s1) _ fun u H2 s2 e => by
  have d2 : DTe K S E n H2 v := Mo.mo s2 d1
  obtain ⟨a, xs, rfl, ha, la, da⟩ := d2
  have f2 := (f.same s1).same s2
  exact ⟨e, a, xs, rfl, Vw.sub.seqT ha, fun p hp => k _ _ (s1.trans (s2.trans (Same.new hp))) ⟨p, _, rfl, SqT.of (Vw.at f2 hp), by rw [List.length_reverse]; exact la, fun y hy => M.mo (Same.new hp) (da y (List.mem_reverse.mp hy))⟩⟩
theorem alE_listof {n : Nat} [M : Mo E] (h : Al H0 S te σ (DTe K S E n)) : Al H0 S (tCB (rListOf K) (tCons te tNil)) σ (LTe S E n) := fun H s f Q k => h H s f _ fun v H1 s1 d1 => by
  obtain ⟨a, xs, rfl, ha, la, da⟩ := d1
  exact ⟨a, xs, rfl, .inr (Vw.sub.seqT ha), fun p hp => k _ _ (s1.trans (Same.new hp)) ⟨p, xs, rfl, Vw.at (f.same s1) hp, la, fun y hy => M.mo (Same.new hp) (da y hy)⟩⟩
theorem nameAll2 {i : Nat} {x : V} {σ : St} {H : Hp} {A B : St → Hp → Prop} (h : A (σ.set i (some x)) H) : gName i x σ H fun σ2 H2 => tAll σ2 H2 fun b H3 => if b = true then A σ2 H3 else B σ2 H3 := by
  show if true = true then A (σ.set i (some x)) H else B (σ.set i (some x)) H
  exact iteT h
theorem alE_comp {n : Nat} {fr : List Nat} {tl : TE} [M : Mo E] [M' : Mo E'] (hl : Al H0 S tl σ (LTe S E n)) (hn : n ≤ 1000) (he : ∀ H x, Same H0 H → E H x → Al H S te ((blk 1 fr σ).set 0 (some x)) E') (hb : ∀ v x, ((blk 1 fr σ).set 0 v).set 0 x = (blk 1 fr σ).set 0 x) : Al H0 S (tComp 1 fr (iList K tl) (gName 0) tAll te) σ (LTe S E' n) := fun H s f Q k => hl H s f _ fun v H1 s1 d1 => by
  obtain ⟨a, xs, rfl, ha, la, da⟩ := d1
  have f1 := f.same s1
  have haH := Vw.sub _ _ ha
  refine ⟨a, rfl, ⟨_, SqL.of haH⟩, comp_list (K := K) (a := a) (xs := xs) (fun τ => ∃ v, τ = (blk 1 fr σ).set 0 v) (fun i ys H2 => Same H1 H2 ∧ ys.length ≤ i ∧ ∀ y ∈ ys, E' H2 y) (Nat.le_of_lt (small1000 (by omega))) ⟨none, ?_⟩ ⟨Same.refl _, Nat.le_refl _, fun _ h => (List.not_mem_nil h).elim⟩ (fun i ys H2 h => h.2.1) (fun i ys H2 h => SqL.of (h.1 _ _ haH)) ?_ ?_⟩
  · unfold blk
    rfl
  · rintro i ys τ x H2 hx ⟨v0, rfl⟩ ⟨s2, l2, d2⟩ hz
    refine nameAll2 ?_
    have hE : E H2 x := M.mo s2 (da x (List.mem_of_getElem? hx))
    rw [hb]
    refine he H2 x (s.trans (s1.trans s2)) hE H2 (Same.refl _) (f1.same s2) _ fun u H3 s3 d3 => ⟨hz, ⟨_, rfl⟩, s2.trans s3, by rw [List.length_append]; show ys.length + 1 ≤ _; omega, fun y hy => ?_⟩
    rcases List.mem_append.mp hy with hy | hy
    · exact M'.mo s3 (d2 y hy)
    · rw [List.mem_singleton.mp hy]; exact d3
  · rintro ys H2 ⟨s2, l2, d2⟩ p hp
    exact k _ _ (s1.trans (s2.trans (Same.new hp))) ⟨p, ys, rfl, Vw.at (f1.same s2) hp, by omega, fun y hy => M'.mo (Same.new hp) (d2 y hy)⟩
theorem Al.weak {R R' : Hp → V → Prop} (h : Al H0 S te σ R) (m : ∀ H v, R H v → R' H v) : Al H0 S te σ R' := fun H s f Q k => h H s f Q fun v H' s' r => k v H' s' (m H' v r)
theorem set_al {R : Hp → V → Prop} {i : Nat} {u : TS} {D : Ends} (f : Fx S H) (h : Al H S te σ R) (k : ∀ v H', Same H H' → R H' v → u D (σ.set i (some v)) H') : tSeq (tAsg te (gName i)) u D σ H := h H (Same.refl H) f _ k
theorem ret_al {R : Hp → V → Prop} {D : Ends} (f : Fx S H) (h : Al H S te σ R) (k : ∀ v H', Same H H' → R H' v → D.rt v H') : tRet te D σ H := h H (Same.refl H) f _ k
end
section
variable {env : Env} {rest es : List Expr} {k : Nat} {pos : Pos} {a b c : Expr}
end
end L2
set_option Elab.async false
set_option linter.all false
set_option maxRecDepth 100000
namespace L2
open PySem PySem.Spec PyProof.Rows
def compCheck1 (sc scope : Scope) (z0 : Str) (own : List Str) (frn : List Str) : Bool :=
  scope.kind == .function && scope.names.all (fun y => y.2 != .cell || y.1 == z0) && scope.names.all (fun y => y.2 != .local || scope.names.lookup y.1 == some .local) &&
  scope.names.all (fun y => y.2 != .free || sc.names.lookup y.1 == some .cell || sc.names.lookup y.1 == some .free) && decide (own ++ frn).Nodup &&
  frn.all (fun x => scope.names.lookup x == some .free) && scope.names.lookup z0 == some .cell && scope.names.all (fun y => y.2 != .free || y.1 != z0)
structure CompOk1 (X : Cx) (scope : Scope) (z0 : Str) (own : List Str) (fr : List Nat) (frn : List Str) : Prop where
  ck : compCheck1 X.env.scope scope z0 own frn = true
  ix : ∀ (k : Nat) (x : Str), frn[k]? = some x → ∃ j : Nat, fr[k]? = some j ∧ X.N[j]? = some x
  len : fr.length = frn.length
  cf : ∀ (n : Nat) (cl : List (Str × Addr)), cellsFrom n scope.names cl = (z0, n) :: cl
  pc : ∀ h : Heap, pushCells h scope.names = h.push { cls := .type "cell", data := .cell none }
section
variable {X : Cx} {scope : Scope} {z0 : Str} {own frn : List Str} {fr : List Nat}
theorem CompOk1.parts (S : CompOk1 X scope z0 own fr frn) : scope.kind = .function ∧ (∀ y ∈ scope.names, y.2 = .cell → y.1 = z0) ∧ (∀ y ∈ scope.names, y.2 = .local → scope.names.lookup y.1 = some .local) ∧
    (∀ y ∈ scope.names, y.2 = .free → X.env.scope.names.lookup y.1 = some .cell ∨ X.env.scope.names.lookup y.1 = some .free) ∧ (own ++ frn).Nodup ∧ (∀ x ∈ frn, scope.names.lookup x = some .free) ∧ scope.names.lookup z0 = some .cell ∧ ∀ y ∈ scope.names, y.2 = .free → y.1 ≠ z0 := by
  have h := S.ck
  unfold compCheck1 at h
  simp only [Bool.and_eq_true, List.all_eq_true, decide_eq_true_eq, Bool.or_eq_true, bne_iff_ne, ne_eq, beq_iff_eq] at h
  obtain ⟨⟨⟨⟨⟨⟨⟨h1, h2⟩, h3⟩, h4⟩, h5⟩, h7⟩, h8⟩, h9⟩ := h
  refine ⟨h1, fun y hy e => ?_, fun y hy e => ?_, fun y hy e => ?_, h5, h7, h8, fun y hy e => ?_⟩
  · rcases h2 y hy with z | z
    · exact absurd e z
    · exact z
  · rcases h3 y hy with z | z
    · exact absurd e z
    · exact z
  · rcases h4 y hy with (z | z) | z
    · exact absurd e z
    · exact .inl z
    · exact .inr z
  · rcases h9 y hy with z | z
    · exact absurd e z
    · exact z
end
section
variable {X : Cx} {scope : Scope} {z0 : Str} {own frn : List Str} {fr : List Nat} {elt tg iter : Expr} {ifs : List Expr} {pos : Pos} {wi : TI} {g : TG} {tt : TT} {te : TE}
theorem CompOk1.clo {pins : List (Addr × Obj)} {σ : St} {H : Hp} {s : Shared} (S : CompOk1 X scope z0 own fr frn) (I : Inv X pins σ H s) : closureFor scope X.env = pure (clOf X.env scope.names []) := by
  obtain ⟨p1, p2, p3, p4, p5, p7, p8, p9⟩ := S.parts
  exact clo_of fun y hy e => I.ok.has y.1 (p4 y hy e)

end

def relS (scope sc : Scope) : Scope := { scope with names := scope.names.map fun (n, k) => if (k == NameKind.free && sc.kind == .function && sc.names.lookup n == some .cell) then (n, NameKind.cell) else (n, k) }
end L2
set_option Elab.async false
set_option linter.all false
set_option maxRecDepth 100000
namespace L2
open PySem PySem.Spec PyProof.Rows
section
variable {X : Cx}
end
theorem b_min : bootBuiltins "min" = some (.builtin "min") := by decide +kernel
theorem for_zip {K : PySem.W.Frag} {k1 k2 : Sk} {a b : Addr} {xs ys : List V} {g : TG} {tb : TS} {D : Ends} {σ : St} {H : Hp} (Pv : Nat → St → Hp → Prop) (heq : xs.length = ys.length) (h0 : Pv 0 σ H) (hl : ∀ i σ H, i ≤ xs.length → Pv i σ H → SqK k1 K H a xs ∧ SqK k2 K H b ys)
    (hs : ∀ i x y p σ H, xs[i]? = some x → ys[i]? = some y → Pv i σ H → H p = none → g (.ref p) σ (upd H p (.tup [x, y])) fun σ2 H2 => tb { D with nx := Pv (i + 1), ct := Pv (i + 1), bk := D.nx } σ2 H2) (hd : ∀ σ H, Pv xs.length σ H → D.nx σ H) :
    ∃ W : Nat → Nat → St → Hp → Prop, (∃ m, W 0 m σ H) ∧ ∀ i m σ H, W i m σ H →
      ((Itz K k1 k2 a b).stop i H ∧ D.nx σ H) ∨ ((Itz K k1 k2 a b).go i H ∧ ∃ N : St → Hp → Prop, (∀ σ' H', N σ' H' → ∃ m', m' < m ∧ W (i + 1) m' σ' H') ∧ ∀ x H', (Itz K k1 k2 a b).yld i H x H' → g x σ H' fun σ2 H2 => tb { D with nx := N, ct := N, bk := D.nx } σ2 H2) := by
  refine ⟨fun i m σ H => m = xs.length - i ∧ i ≤ xs.length ∧ Pv i σ H, ⟨xs.length, by simp, Nat.zero_le _, h0⟩, ?_⟩
  rintro i m σ H ⟨rfl, hi, p⟩
  obtain ⟨q1, q2⟩ := hl i σ H hi p
  by_cases hlt : i < xs.length
  · refine .inr ⟨⟨xs, ys, xs[i], ys[i]'(by omega), q1, q2, List.getElem?_eq_getElem hlt, List.getElem?_eq_getElem (by omega)⟩, Pv (i + 1), fun σ' H' p' => ⟨xs.length - (i + 1), by omega, rfl, hlt, p'⟩, fun x H' y => ?_⟩
    obtain ⟨z, hz, rfl, hy⟩ := y
    obtain ⟨x, y, h1, h2, rfl⟩ := hy xs ys q1 q2
    exact hs i x y z σ _ h1 h2 p hz
  · have e : i = xs.length := by omega
    subst e
    exact .inl ⟨⟨xs, ys, q1, q2, by rw [← heq, Nat.min_self]⟩, hd σ H p⟩
end L2
set_option Elab.async false
set_option linter.all false
set_option maxRecDepth 100000
namespace L2
open PySem PySem.Spec PyProof.Rows
section
variable {P : Program} {w : World} {K : PySem.W.Frag} {mg : Str → Option Value} {base : Heap} {N : List Str} {qual : Str} {scope : Scope} {f : Addr} {cd : Value} {A : Around} {outer : List Env} {s0 : Shared} {H0 : Hp} {E : XK}
end
end L2
set_option Elab.async false
set_option linter.all false
set_option maxRecDepth 100000
namespace L2
open PySem PySem.Spec PyProof.Rows
abbrev vbm : List Value := [.type "ValueError", .type "Exception", .type "BaseException", .type "object"]
def qns : List Str := ["__init__", "__getattribute__", "__getattr__", "__class__"]
inductive TailN (h : Heap) (bmB : List Value) : List Value → Prop
  | base : TailN h bmB bmB
  | own {A : Addr} {c0 : Value} {dd : Option Addr} {cd : ClassData} {sl : Array (Option Value)} {mA : Str → Option Value} {tl : List Value} :
      h.get? A = some { cls := c0, dict := dd, data := .cls cd, slots := sl } → h.Ns cd.ns mA → (∀ n ∈ qns, mA n = none) → TailN h bmB tl → TailN h bmB (.ref A :: tl)
theorem TailN.tail {h : Heap} {bmB tl : List Value} (T : TailN h bmB tl) : OwnTail h bmB tl := by
  induction T with
  | base => exact .base
  | own hA hN hq _ ih => exact .own hA hN (hq _ (.head _)) ih
theorem TailN.keeps {h h' : Heap} {bmB tl : List Value} (T : TailN h bmB tl) (hk : ∀ b o, h.get? b = some o → h'.get? b = some o) : TailN h' bmB tl := by
  induction T with
  | base => exact .base
  | own hA hN hq _ ih => exact .own (hk _ _ hA) (hN.keeps hk) hq ih
def EcH (h : Heap) (C : Addr) (bm : List Value) : Prop := ∃ N nm q bs hdct sn sub ab col dd k0 k1 k2 k3 k5 mN, h.get? C = some (excClassObj nm q C N bs bm hdct sn sub ab col dd k0 k1 k2 k3 k5 "ValueError.__new__") ∧ h.Ns N mN ∧ (∀ n ∈ qns, mN n = none) ∧ TailN h vbm bm
theorem EcH.keeps {h h' : Heap} {C : Addr} {bm : List Value} (x : EcH h C bm) (hk : ∀ b o, h.get? b = some o → h'.get? b = some o) : EcH h' C bm := by
  obtain ⟨N, nm, q, bs, hdct, sn, sub, ab, col, dd, k0, k1, k2, k3, k5, mN, hC, hN, hq, T⟩ := x
  exact ⟨N, nm, q, bs, hdct, sn, sub, ab, col, dd, k0, k1, k2, k3, k5, mN, hk _ _ hC, hN.keeps hk, hq, T.keeps hk⟩
section
variable {M : Model} {prog : Program} {w : World} {A : Around} {E : Value → Shared → Prop} {h : Heap} {g : Array GenState} {d : Drawn} {t : Nat} {os : OsState} {a C : Addr} {o : Obj} {bm : List Value}
theorem EcH.has {T : String} (x : EcH h C bm) (hb : vbm.contains (.type T) = true) : (Value.ref C :: bm).contains (.type T) = true := by
  obtain ⟨N, nm, q, bs, hdct, sn, sub, ab, col, dd, k0, k1, k2, k3, k5, mN, hC, hN, hmN, TT⟩ := x
  rw [List.contains_cons, TT.tail.hasType hb, Bool.or_true]
end
end L2
set_option Elab.async false
set_option linter.all false
set_option maxRecDepth 100000
namespace L2
open PySem PySem.Spec PyProof.Rows
section
variable {M : Model} {prog : Program} {w : World} {A : Around} {E : Value → Shared → Prop} {h : Heap} {g : Array GenState} {d : Drawn} {t : Nat} {os : OsState} {a C : Addr} {o : Obj} {bm : List Value}
end
end L2
set_option Elab.async false
set_option linter.all false
set_option maxRecDepth 100000
namespace L2
open PySem PySem.Spec PyProof.Rows
section
variable {X : Cx}
end
end L2
set_option Elab.async false
set_option linter.all false
set_option maxRecDepth 100000
namespace L2
open PySem PySem.Spec PyProof.Rows
section
variable {P : Program} {w : World} {l : List Env} {H H' : Hp} {s s' : Shared} {E : XK} {a T C : Addr}
end
section
variable {X : Cx} {pins : List (Addr × Obj)} {σ : St} {H : Hp} {s s' : Shared} {E : XK} {e : Value} {M : Model} {A : Around} {F : Value → Shared → Prop} {L : Addr}
end
end L2
set_option Elab.async false
set_option linter.all false
set_option maxRecDepth 100000
namespace L2
open PySem PySem.Spec PyProof.Rows
section
variable {M : Model} {A : Around} {E : Value → Shared → Prop} {h : Heap} {g : Array GenState} {d : Drawn} {t : Nat} {os : OsState} {a C C' : Addr} {oe : Obj} {bm bm' : List Value}
end
section
variable {X : Cx} {k : Nat} {f : Addr} {fd : FuncData} {ps : List Str} {sp : Sp} {dvs : List V} {ds : List Value} {x : Str} {p pos apos : Pos} {e : Expr} {es : List Expr} {t : TA}
end
end L2
set_option Elab.async false
set_option linter.all false
set_option maxRecDepth 100000
namespace L2
open PySem PySem.Spec PyProof.Rows
section
variable {X : Cx} {K : PySem.W.Frag}
end
end L2
set_option Elab.async false
set_option linter.all false
set_option maxRecDepth 100000
namespace L2
open PySem PySem.Spec PyProof.Rows
structure PEo (X : Cx) (e : Expr) (t : TE) : Prop where
  go : PE X e t
structure PAo (X : Cx) (es : List Expr) (t : TA) : Prop where
  go : PA X es t
structure PSo (X : Cx) (st : Stmt) (t : TS) : Prop where
  go : PS X st t
structure PSso (X : Cx) (sts : List Stmt) (t : TS) : Prop where
  go : PSs X sts t
section
variable {X : Cx} {pos : Pos} {e a b : Expr} {es : List Expr} {te ta tb : TE} {t : TA} {st : Stmt} {rest : List Stmt} {ts us : TS}
end
end L2
set_option Elab.async false
set_option linter.all false
set_option maxRecDepth 100000
namespace L2
open PySem PySem.Spec PyProof.Rows
def tDt (K : PySem.W.Frag) (Z : List Addr) (S : St → Prop) (d : PyData) : TE := fun σ H Q => S σ ∧ Fx Z H ∧ ∀ v H', Same H H' → Den K (Vw Z H') d v → Q v H'
def tDA (K : PySem.W.Frag) (Z : List Addr) (S : St → Prop) (ds : List PyData) : TA := fun σ H Q => S σ ∧ Fx Z H ∧ ∀ vs H', Same H H' → DenAll K (Vw Z H') ds vs → Q vs H'
structure Dt (X : Cx) (K : PySem.W.Frag) (Z : List Addr) (S : St → Prop) (e : Expr) (d : PyData) : Prop where
  go : PE X e (tDt K Z S d)
structure DA (X : Cx) (K : PySem.W.Frag) (Z : List Addr) (S : St → Prop) (es : List Expr) (ds : List PyData) : Prop where
  go : PA X es (tDA K Z S ds)
section
variable {X : Cx} {K : PySem.W.Frag} {Z : List Addr} {S : St → Prop} {te : TE} {pos : Pos} {e a b : Expr} {es : List Expr} {d : PyData} {ds : List PyData}
theorem PE.imp {t t' : TE} (h : PE X e t) (q : ∀ σ H Q, t' σ H Q → t σ H Q) : PE X e t' := fun pins s σ H Q I z => h pins s σ H Q I (q σ H Q z)
theorem PA.imp {t t' : TA} (h : PA X es t) (q : ∀ σ H Q, t' σ H Q → t σ H Q) : PA X es t' := fun pos pins s σ H Q I z => h pos pins s σ H Q I (q σ H Q z)
theorem PSso.ex {sts : List Stmt} {t : TS} {R : TS → Prop} (h : PSso X sts t) (r : R t) : ∃ t, PSs X sts t ∧ R t := ⟨t, h.go, r⟩
end
end L2
set_option Elab.async false
set_option linter.all false
set_option maxRecDepth 100000
namespace L2
open PySem PySem.Spec PyProof.Rows
section
variable {X : Cx} {tg l : Expr} {body : List Stmt} {tl : TE} {g : TG} {tb : TS} {pos : Pos}
end
end L2
set_option Elab.async false
set_option linter.all false
set_option maxRecDepth 100000
namespace L2
open PySem PySem.Spec PyProof.Rows
end L2
set_option Elab.async false
set_option linter.all false
set_option maxRecDepth 100000
namespace L2
open PySem PySem.Spec PyProof.Rows
section
variable {prog : Program} {w : World} {A : Around} {E : Value → Shared → Prop} {s : Shared}
end
end L2
set_option Elab.async false
set_option linter.all false
set_option maxRecDepth 100000
namespace L2
open PySem PySem.Spec PyProof.Rows
theorem ints_vals : ∀ {vs : List Value} {ns : List Int}, Vals (ns.map V.int) vs → IntsAre vs ns
  | [], [], _ => .nil
  | v :: vs, n :: ns, h => by
    cases h with
    | cons r t =>
      obtain ⟨k, rfl⟩ := r
      exact .cons n k (ints_vals t)
  | [], n :: ns, h => by cases h
  | v :: vs, [], h => by cases h
section
variable {X : Cx}
end
end L2
set_option Elab.async false
set_option linter.all false
set_option maxRecDepth 100000
namespace L2
open PySem PySem.Spec PyProof.Rows
section
variable {prog : Program} {w : World} {A : Around} {E : Value → Shared → Prop} {s : Shared} {e it l : Addr} {n : Nat} {P : Nat → Value → Prop} {st : Nat → Heap → Prop}
theorem enumItem {i : Nat} {old : Value} {Q : Value → Shared → Prop} (S : Sub prog w it l n P st) (hei : e ≠ it) (hel : l ≠ e) (he : IsEnum s.heap e it i old) (h1 : st i s.heap) (hi : i < n)
    (hQ : ∀ h' x tk, P i x → IsEnumOut h' e it ((i : Int) + 1) x s.heap.objs.size → st (i + 1) h' → h'.get? s.heap.objs.size = some { cls := .type "tuple", data := .seq #[.int i tk, x] } →
      (∀ c o, c ≠ e → c ≠ it → s.heap.get? c = some o → h'.get? c = some o) → Q (.ref s.heap.objs.size) { s with heap := h', toks := s.toks + 1 }) :
    wpAny (model prog w) A (Builtin.«enumerate.__next__» ⟨[.ref e], []⟩) (fun fin s' => ∃ v, fin = .done (.ret v) ∧ Q v s') E s := by
  refine wpAny_bind (m := field (.ref e) 2) (wpAny_field he rfl (x := .ref it) rfl ?_)
  refine wpAny_bind (m := Builtin.SmallTypes.nextOf (.ref it)) (S.item _ i _ _ _ hi h1 fun x g1 px t1 b1 => ?_)
  have e1 : IsEnum g1 e it i old := b1.extBut _ _ hei he
  refine wpAny_bind (m := field (.ref e) 3) (wpAny_field e1 rfl (x := rawInt i) rfl ?_)
  refine wpAny_bind (m := field (.ref e) 4) (wpAny_field e1 rfl (x := .none) rfl ?_)
  refine wpAny_bind (m := mkInt i) (wpAny_mkInt ?_)
  refine wpAny_bind (m := setField (.ref e) 3 (rawInt ((i : Int) + 1))) (wpAny_setField_rec e1 (by simp) fun g2 e2 b2 => ?_)
  have e2' : IsEnum g2 e it ((i : Int) + 1) old := e2
  refine wpAny_bind (m := setField (.ref e) 4 .none) (wpAny_setField_rec e2' (by simp) fun g3 e3 b3 => ?_)
  have e3' : IsEnum g3 e it ((i : Int) + 1) old := e3
  refine wpAny_bind (m := newTuple [.int i s.toks, x]) (wpAny_newTuple ?_)
  have sz : g3.objs.size = s.heap.objs.size := by rw [b3.1, b2.1, b1.1]
  have e4 : IsEnum (g3.push { cls := .type "tuple", data := .seq #[.int i s.toks, x] }) e it ((i : Int) + 1) old := Heap.get?_push_of_some _ e3'
  have T4 : (g3.push { cls := .type "tuple", data := .seq #[.int i s.toks, x] }).get? s.heap.objs.size = some { cls := .type "tuple", data := .seq #[.int i s.toks, x] } := by rw [← sz]; exact Heap.get?_push_size _ rfl
  have kp4 : ∀ c o, c ≠ e → c ≠ it → s.heap.get? c = some o → (g3.push { cls := .type "tuple", data := .seq #[.int i s.toks, x] }).get? c = some o := fun c o c1 c2 q =>
    Heap.get?_push_of_some _ (b3.extBut _ _ c1 (b2.extBut _ _ c1 (b1.extBut _ _ c2 q)))
  have t4 : st (i + 1) (g3.push { cls := .type "tuple", data := .seq #[.int i s.toks, x] }) := S.keep _ _ _ t1 fun c hc o q => by
    have c1 : c ≠ e := by rcases hc with r | r <;> rw [r]; exact Ne.symm hei; exact hel
    exact Heap.get?_push_of_some _ (b3.extBut _ _ c1 (b2.extBut _ _ c1 q))
  have elt : s.heap.objs.size ≠ e := Nat.ne_of_gt (Heap.lt_size he)
  rw [sz]
  generalize g3.push { cls := .type "tuple", data := .seq #[.int i s.toks, x] } = g4 at e4 T4 kp4 t4 ⊢
  refine wpAny_bind (m := Builtin.SmallTypes.ownedTupleIsFree (.ref e)) ?_
  unfold Builtin.SmallTypes.ownedTupleIsFree
  refine wpAny_bind (wpAny_field e4 rfl (x := .none) rfl (wpAny_pure ?_))
  simp only [if_true]
  refine wpAny_bind (wpAny_rule ?_)
  refine wpAny_bind (wpAny_field e4 rfl (x := old) rfl ?_)
  refine wpAny_bind (wpAny_setField_rec e4 (by simp) fun g5 e5 b5 => ?_)
  have e5' : IsEnum g5 e it ((i : Int) + 1) x := e5
  refine wpAny_bind (m := Builtin.SmallTypes.ownedTupleHandOut (.ref e) (.ref s.heap.objs.size)) ?_
  unfold Builtin.SmallTypes.ownedTupleHandOut
  refine wpAny_bind (wpAny_setField_rec e5' (by simp) fun g6 e6 b6 => ?_)
  have e6' : IsEnumOut g6 e it ((i : Int) + 1) x s.heap.objs.size := e6
  refine wpAny_setField_rec e6' (by simp) fun g7 e7 b7 => ?_
  have e7' : IsEnumOut g7 e it ((i : Int) + 1) x s.heap.objs.size := e7
  have up : ∀ c o, c ≠ e → g4.get? c = some o → g7.get? c = some o := fun c o c1 q => b7.extBut _ _ c1 (b6.extBut _ _ c1 (b5.extBut _ _ c1 q))
  refine wpAny_bind (wpAny_letGo (wpAny_pure ⟨_, rfl, hQ g7 x s.toks px e7' ?_ (up _ _ elt T4) fun c o c1 c2 q => up c o c1 (kp4 c o c1 c2 q)⟩))
  exact S.keep _ _ _ t4 fun c hc o q => up c o (by rcases hc with r | r <;> rw [r]; exact Ne.symm hei; exact hel) q
theorem enumEnd {old : Value} {Q : Fin → Shared → Prop} (hh : A.handled = none) (S : Sub prog w it l n P st) (he : IsEnum s.heap e it n old) (h1 : st n s.heap)
    (hE : ∀ h' x, Heap.ExtBut it s.heap h' → (∃ o, h'.get? x = some o ∧ o.cls = .type "StopIteration") → E (.ref x) { s with heap := h' }) :
    wpAny (model prog w) A (Builtin.«enumerate.__next__» ⟨[.ref e], []⟩) Q E s := by
  refine wpAny_bind (m := field (.ref e) 2) (wpAny_field he rfl (x := .ref it) rfl ?_)
  exact wpAny_bind (m := Builtin.SmallTypes.nextOf (.ref it)) (S.done _ _ _ _ hh h1 hE)
end
def Ite (K : PySem.W.Frag) (k : Sk) (a : Addr) : It :=
  ⟨fun i H => ∃ xs x, SqK k K H a xs ∧ xs[i]? = some x,
   fun i H v H' => ∃ p, H p = none ∧ v = .ref p ∧ ∀ xs, SqK k K H a xs → ∃ x, xs[i]? = some x ∧ H' = upd H p (.tup [.int (i : Nat), x]),
   fun i H => ∃ xs, SqK k K H a xs ∧ xs.length = i⟩
theorem turn_enum {P : Program} {w : World} {K : PySem.W.Frag} {es : List Expr} {x1} {pos : Pos} (k : Sk) (a e it : Addr) (hei : e ≠ it) :
    Turn P w K (.Tuple es x1 pos) (Ite K k a) [e, it] e (fun i h => (∃ old, IsEnum h e it i old) ∧ ItK k h it a i) where
  mem := by simp
  obj := fun i h st c hc => by
    obtain ⟨⟨old, he⟩, h1⟩ := st
    simp only [List.mem_cons, List.not_mem_nil, or_false] at hc
    rcases hc with rfl | rfl
    · exact ⟨_, he, fun v q => by cases q⟩
    · exact h1.obj
  keep := fun i h h' st kp => by
    obtain ⟨⟨old, he⟩, h1⟩ := st
    exact ⟨⟨old, kp e (by simp) _ he⟩, h1.at fun o q => kp it (by simp) o q⟩
  item := by
    intro X hP hw hK hc i pins s σ H E I hf st hg
    subst hP hw hK
    obtain ⟨⟨old, he⟩, h1⟩ := st
    obtain ⟨xs, x, ha, hx⟩ := hg
    obtain ⟨its, rv, pa⟩ := I.seqK ha
    obtain ⟨u, hu, ru⟩ := rv.get hx
    have na : ∀ c ∈ [e, it], a ≠ c := fun c hc' => I.seq_ne ha (hf c hc')
    have hT : s.TypeIs (.ref e) "enumerate" := ⟨_, he, rfl⟩
    have hi1 : i < its.toArray.size := by rw [List.size_toArray]; exact (List.getElem?_eq_some_iff.mp hu).1
    unfold pyNext
    refine wpAny_bind (wpAny_attempt (wpAny_callSpecial?_slot (name := Str.ofString "__next__") hT PySem.F.slot_enumerate_next (wpAny_call_entry PySem.F.slot_enumerate_next hT PySem.F.entry_enumerate_next
      (enumItem (subK k X.prog X.w it a its.toArray (na it (by simp))) hei (na e (by simp)) he ⟨h1, pa⟩ hi1 fun h' u' tk pu he' s1 hT' kp => wpAny_pure ?_) (PySem.F.args_enumerate_next_1 _))))
    have eu : u' = u := by
      have q : its[i]? = some u' := by simpa using pu
      rw [hu] at q
      exact (Option.some.inj q).symm
    subst eu
    refine ⟨_, rfl, wpAny_letOwnedTupleGo_enum he' fun h2 he2 sb2 => ?_⟩
    have Te : s.heap.objs.size ≠ e := Nat.ne_of_gt (Heap.lt_size he)
    have hT2 : h2.get? s.heap.objs.size = some { cls := .type "tuple", data := .seq #[.int i tk, u'] } := sb2.extBut _ _ Te hT'
    have hf0 := I.hok.fresh (Nat.le_refl s.heap.objs.size)
    have fz := I.fpOk (Nat.le_refl s.heap.objs.size) hf0
    have I2 : Inv X pins σ H { s with heap := h2, toks := s.toks + 1 } := by
      refine I.turnedL (t' := s.toks + 1) [e, it] (fun c o hc' q => ?_) hf
      simp only [List.mem_cons, List.not_mem_nil, or_false, not_or] at hc'
      exact sb2.extBut _ _ hc'.1 (kp c o hc'.1 hc'.2 q)
    have I3 : Inv X pins σ (upd H s.heap.objs.size (.tup [.int (i : Nat), x])) { s with heap := h2, toks := s.toks + 1 } := by
      refine I2.trackO (show ObjOk X.prog X.w _ _ _ (.tup [.int (i : Nat), x]) from ⟨by show 2 ≤ sizeLine; rw [sizeLine_eq]; decide, [.int i tk, u'], 0, .cons ⟨tk, rfl⟩ (.cons ru .nil), hT2⟩) hf0 fz.2.1 I.sz fz.2.2.2.2.1 fz.2.2.2.2.2
    refine ⟨.ref s.heap.objs.size, _, I3, rfl, ⟨s.heap.objs.size, hf0, rfl, fun xs' ha' => ?_⟩, ⟨⟨_, by simpa using he2⟩, s1.1.at fun o q => sb2.extBut _ _ (Ne.symm hei) q⟩, fun c hc' => ?_⟩
    · rw [I.seqK_inj ha' ha]
      exact ⟨x, hx, rfl⟩
    · have cl : c ≠ s.heap.objs.size := by
        obtain ⟨o, q⟩ : ∃ o, s.heap.get? c = some o := by
          simp only [List.mem_cons, List.not_mem_nil, or_false] at hc'
          rcases hc' with rfl | rfl
          · exact ⟨_, he⟩
          · obtain ⟨o, q, _⟩ := h1.obj; exact ⟨o, q⟩
        exact Nat.ne_of_lt (Heap.lt_size q)
      rw [upd_ne cl]
      exact (hf c hc').1
  done := by
    intro X hP hw hK hc i pins s σ H E I hf st hg
    subst hP hw hK
    obtain ⟨⟨old, he⟩, h1⟩ := st
    obtain ⟨xs, ha, hlen⟩ := hg
    obtain ⟨its, rv, pa⟩ := I.seqK ha
    have la := rv.length
    have na : ∀ c ∈ [e, it], a ≠ c := fun c hc' => I.seq_ne ha (hf c hc')
    have hT : s.TypeIs (.ref e) "enumerate" := ⟨_, he, rfl⟩
    have ei : i = its.toArray.size := by rw [List.size_toArray]; omega
    subst ei
    unfold pyNext
    refine wpAny_bind (wpAny_attempt (wpAny_callSpecial?_slot (name := Str.ofString "__next__") hT PySem.F.slot_enumerate_next (wpAny_call_entry PySem.F.slot_enumerate_next hT PySem.F.entry_enumerate_next
      (enumEnd (I.ok.hd hc) (subK k X.prog X.w it a its.toArray (na it (by simp))) he ⟨h1, pa⟩ fun h' x kp hx => ?_) (PySem.F.args_enumerate_next_1 _))))
    obtain ⟨oe, hoe, hce⟩ := hx
    refine wpAny_bind (wpAny_isInstance (T := "StopIteration") (b := true) ⟨oe, hoe, hce⟩ isSubtype_stop (wpAny_pure ⟨rfl, ?_⟩))
    refine I.turnedL (t' := s.toks) [e, it] (fun c o hc' q => ?_) hf
    simp only [List.mem_cons, List.not_mem_nil, or_false, not_or] at hc'
    exact kp c o hc'.2 q
  self := fun _ _ _ _ _ st h => by
    obtain ⟨⟨old, he⟩, _⟩ := st
    exact wpAny_pyIter_enum he h
theorem enum_made (k : Sk) (a : Addr) (xs : Array Value) :
    Meets (Builtin.«enumerate.__new__» ⟨[.type "enumerate", .ref a], []⟩) (fun _ R s => AtK k s.heap a xs ∧
      R (.ok (.ret (.ref (s.heap.push (itK k a)).objs.size))) { s with heap := (s.heap.push (itK k a)).push { cls := .type "enumerate", data := .fields #[.none, .bool false, .ref s.heap.objs.size, rawInt 0, .none, .none] } }) :=
  .of_wp fun prog w A R s h => by
    obtain ⟨hp, g, d, tk, os⟩ := s
    obtain ⟨hl, h⟩ := h
    have hsub := sub_enumerate
    have hA : AtK k (Shared.heap ⟨hp, g, d, tk, os⟩) a xs := hl
    obtain ⟨o, ho, hc⟩ : ∃ o, hp.get? a = some o ∧ (o.cls = .type "list" ∨ o.cls = .type "tuple") := by
      cases k
      · obtain ⟨o, e, c, _⟩ := hl; exact ⟨o, e, .inl c⟩
      · obtain ⟨o, e, c, _⟩ := hl; exact ⟨o, e, .inr c⟩
    have hoL : (Shared.heap ⟨hp, g, d, tk, os⟩).get? a = some o := ho
    wp_walk using AutoSeq1.wpAny_loadPart' hoL
    refine wpAny_stack_any fun st => wpAny_pure ?_
    split
    · rename_i c _ _ _ _ _
      cases (c == Value.type "enumerate")
      · wp_walk using AutoSeq1.wpAny_loadPart' hoL, iterK hA
        exact ⟨_, rfl, h⟩
      · wp_walk using AutoSeq1.wpAny_loadPart' hoL, iterK hA
        exact ⟨_, rfl, h⟩
    · wp_walk using AutoSeq1.wpAny_loadPart' hoL, iterK hA
      exact ⟨_, rfl, h⟩
section
variable {X : Cx} {es : List Expr} {x1 : Nat} {tpos : Pos}
def iEnum (K : PySem.W.Frag) (k : Sk) (ta : TA) : TI := fun σ H R => ta σ H fun vs H1 => ∃ a xs, vs = [.ref a] ∧ SqK k K H1 a xs ∧ R (Ite K k a) H1
theorem pi_enum (k : Sk) {a : Expr} {ta : TA} {p pos : Pos} (hg : Gl X "enumerate") (hm : X.mg "enumerate" = none) (ha : PA X [a] ta) (hs : starEach [a] X.env = [(false, eval a X.env)] := by rfl) :
    PI X (.Tuple es x1 tpos) (.Call (.Name "enumerate" p) [a] [] pos) (iEnum X.K k ta) := by
  intro pins s σ H R I h
  refine Call_ (ld_blt (u := .type "enumerate") I hg hm (by decide +kernel) (PyProof.Rows.callWith_type1 (thn (ha pos pins s σ H _ I h) fun us s1 ⟨vs, H1, I1, r1, q1⟩ => ?_) hs rfl))
  obtain ⟨l, xs, rfl, hA, q⟩ := q1
  obtain ⟨u1, rfl, r1'⟩ := vals1 r1
  cases r1'
  obtain ⟨its, rv, pa⟩ := I1.seqK hA
  refine callType_new PySem.F.called_enumerate (by decide) (PySem.F.typeCall_enumerate_1 _) (PySem.F.newCall_enumerate_1 _) (fun obj => PySem.F.args_object_init_2 obj _) PySem.F.entry_enumerate_new (enum_made k l its.toArray) ⟨pa, ?_⟩
  have n1 : (s1.heap.push (itK k l)).objs.size = s1.heap.objs.size + 1 := Heap.size_push ..
  have g2 : IsEnum ((s1.heap.push (itK k l)).push { cls := .type "enumerate", data := .fields #[.none, .bool false, .ref s1.heap.objs.size, rawInt 0, .none, .none] }) (s1.heap.push (itK k l)).objs.size s1.heap.objs.size 0 .none := Heap.get?_push_size _ rfl
  have g1 : ItK k ((s1.heap.push (itK k l)).push { cls := .type "enumerate", data := .fields #[.none, .bool false, .ref s1.heap.objs.size, rawInt 0, .none, .none] }) s1.heap.objs.size l 0 := (ItK.new k s1.heap l).at fun o e => Heap.get?_push_of_some _ e
  have kp : ∀ c o, s1.heap.get? c = some o → ((s1.heap.push (itK k l)).push { cls := .type "enumerate", data := .fields #[.none, .bool false, .ref s1.heap.objs.size, rawInt 0, .none, .none] }).get? c = some o := fun c o e => Heap.get?_push_of_some _ (Heap.get?_push_of_some _ e)
  generalize (s1.heap.push (itK k l)).push { cls := .type "enumerate", data := .fields #[.none, .bool false, .ref s1.heap.objs.size, rawInt 0, .none, .none] } = h2 at g1 g2 kp ⊢
  refine ⟨⟨_, g2, rfl⟩, wpAny_pyIter_enum g2 ?_⟩
  rw [n1] at *
  have I2 : Inv X pins σ H1 { s1 with heap := h2 } := I1.kept (t' := s1.toks) kp
  refine ⟨s1.heap.objs.size + 1, [s1.heap.objs.size + 1, s1.heap.objs.size], _, _, H1, rfl, I2, turn_enum k l (s1.heap.objs.size + 1) s1.heap.objs.size (Nat.succ_ne_self _), ⟨⟨_, g2⟩, g1⟩, fun c hc => ?_, q⟩
  have hc' : s1.heap.objs.size ≤ c := by
    simp only [List.mem_cons, List.not_mem_nil, or_false] at hc
    rcases hc with r | r
    · rw [r]; exact Nat.le_add_right _ _
    · rw [r]; exact Nat.le_refl _
  exact I1.fpOk hc' (I1.hok.fresh hc')
end
end L2
set_option Elab.async false
set_option linter.all false
set_option maxRecDepth 100000
namespace L2
open PySem PySem.Spec PyProof.Rows
theorem le1000 {n : Nat} (h : n ≤ 1000) : n ≤ sizeLine := by rw [sizeLine_eq]; omega
section
variable {own : Nat} {fr : List Nat} {g : TG} {te : TE} {σ : St} {H : Hp} {Qf : Hp → List V → Prop} {K : PySem.W.Frag}
theorem take_at {vs : List V} {i : Nat} {v : V} (h : vs[i]? = some v) : vs.take (i + 1) = vs.take i ++ [v] := by rw [List.take_succ, h]; rfl
theorem comp_fn {J : It} {n : Nat} {vs : List V} (SH : St → Prop) (hn : n ≤ 1000) (hl : vs.length = n) (hσ : SH (blk own fr σ)) (hstop : ∀ H', Same H H' → J.stop n H') (hgo : ∀ i H', i < n → Same H H' → J.go i H')
    (hs : ∀ i v x σ H1 H2, i < n → vs[i]? = some v → SH σ → Same H H1 → J.yld i H1 x H2 → ∀ Q : V → St → Hp → Prop, (∀ σ2 H4, SH σ2 → Same H1 H4 → Q v σ2 H4) → g x σ H2 fun σ2 H3 => te σ2 H3 fun y H4 => Q y σ2 H4)
    (hd : ∀ H', Same H H' → Qf H' vs) :
    ∃ W : Nat → Nat → List V → St → Hp → Prop, (∃ m, W 0 m [] (blk own fr σ) H) ∧ ∀ i m ys σ' H, W i m ys σ' H →
      (J.stop i H ∧ Qf H ys) ∨
      (J.go i H ∧ ∃ N : List V → St → Hp → Prop, (∀ ys' σ2 H2, N ys' σ2 H2 → ∃ m', m' < m ∧ W (i + 1) m' ys' σ2 H2) ∧
        ∀ x H', J.yld i H x H' → g x σ' H' fun σ2 H2 => tAll σ2 H2 fun b H3 => if b = true then te σ2 H3 fun y H4 => ys.length < sizeLine ∧ N (ys ++ [y]) σ2 H4 else N ys σ2 H3) := by
  refine comp_it n (le1000 hn) SH (fun i ys H' => ys = vs.take i ∧ Same H H') hσ ⟨rfl, Same.refl H⟩ (fun i ys H' p => by rw [p.1, List.length_take]; omega) (fun ys H' p => hstop H' p.2) (fun i ys H' hi p => hgo i H' hi p.2) ?_ (fun ys H' p => ?_)
  · rintro i ys σ' x H1 H2 hi sh ⟨rfl, s1⟩ hy hz
    have hv : vs[i]? = some vs[i] := List.getElem?_eq_getElem (by omega)
    have h := hs i vs[i] x σ' H1 H2 hi hv sh s1 hy (fun y σ2 H4 => (vs.take i).length < sizeLine ∧ SH σ2 ∧ (vs.take i ++ [y] = vs.take (i + 1) ∧ Same H H4)) fun σ2 H4 sh2 s4 => ⟨hz, sh2, (take_at hv).symm, s1.trans s4⟩
    exact h
  · obtain ⟨rfl, s1⟩ := p
    rw [List.take_of_length_le (by omega)]
    exact hd H' s1
theorem comp_fnL {a : Addr} {xs vs : List V} (SH : St → Prop) (hn : xs.length ≤ 1000) (hl : vs.length = xs.length) (ha : SqL K H a xs) (hσ : SH (blk own fr σ))
    (hs : ∀ (i : Nat) x v σ H1, xs[i]? = some x → vs[i]? = some v → SH σ → Same H H1 → ∀ Q : V → St → Hp → Prop, (∀ σ2 H4, SH σ2 → Same H1 H4 → Q v σ2 H4) → g x σ H1 fun σ2 H2 => te σ2 H2 fun y H4 => Q y σ2 H4)
    (hd : ∀ H', Same H H' → Qf H' vs) :
    ∃ W : Nat → Nat → List V → St → Hp → Prop, (∃ m, W 0 m [] (blk own fr σ) H) ∧ ∀ i m ys σ' H, W i m ys σ' H →
      ((Itl K a).stop i H ∧ Qf H ys) ∨
      ((Itl K a).go i H ∧ ∃ N : List V → St → Hp → Prop, (∀ ys' σ2 H2, N ys' σ2 H2 → ∃ m', m' < m ∧ W (i + 1) m' ys' σ2 H2) ∧
        ∀ x H', (Itl K a).yld i H x H' → g x σ' H' fun σ2 H2 => tAll σ2 H2 fun b H3 => if b = true then te σ2 H3 fun y H4 => ys.length < sizeLine ∧ N (ys ++ [y]) σ2 H4 else N ys σ2 H3) := by
  refine comp_fn SH hn hl hσ (fun H' s => ⟨xs, s.seqL ha, Nat.le_refl _⟩) (fun i H' hi s => ⟨xs, xs[i], s.seqL ha, List.getElem?_eq_getElem hi⟩) (fun i v x σ H1 H2 hi hv sh s y Q k => ?_) hd
  obtain ⟨e, y⟩ := y
  subst e
  exact hs i x v σ _ (y xs (s.seqL ha)) hv sh s Q k
theorem comp_fnT {a : Addr} {xs vs : List V} (SH : St → Prop) (hn : xs.length ≤ 1000) (hl : vs.length = xs.length) (ha : SqT K H a xs) (hσ : SH (blk own fr σ))
    (hs : ∀ (i : Nat) x v σ H1, xs[i]? = some x → vs[i]? = some v → SH σ → Same H H1 → ∀ Q : V → St → Hp → Prop, (∀ σ2 H4, SH σ2 → Same H1 H4 → Q v σ2 H4) → g x σ H1 fun σ2 H2 => te σ2 H2 fun y H4 => Q y σ2 H4)
    (hd : ∀ H', Same H H' → Qf H' vs) :
    ∃ W : Nat → Nat → List V → St → Hp → Prop, (∃ m, W 0 m [] (blk own fr σ) H) ∧ ∀ i m ys σ' H, W i m ys σ' H →
      ((Itt K a).stop i H ∧ Qf H ys) ∨
      ((Itt K a).go i H ∧ ∃ N : List V → St → Hp → Prop, (∀ ys' σ2 H2, N ys' σ2 H2 → ∃ m', m' < m ∧ W (i + 1) m' ys' σ2 H2) ∧
        ∀ x H', (Itt K a).yld i H x H' → g x σ' H' fun σ2 H2 => tAll σ2 H2 fun b H3 => if b = true then te σ2 H3 fun y H4 => ys.length < sizeLine ∧ N (ys ++ [y]) σ2 H4 else N ys σ2 H3) := by
  refine comp_fn SH hn hl hσ (fun H' s => ⟨xs, s.seqT ha, Nat.le_refl _⟩) (fun i H' hi s => ⟨xs, xs[i], s.seqT ha, List.getElem?_eq_getElem hi⟩) (fun i v x σ H1 H2 hi hv sh s y Q k => ?_) hd
  obtain ⟨e, y⟩ := y
  subst e
  exact hs i x v σ _ (y xs (s.seqT ha)) hv sh s Q k
end
end L2
set_option Elab.async false
set_option linter.all false
set_option maxRecDepth 100000
namespace L2
open PySem PySem.Spec PyProof.Rows
section
variable {X : Cx} {st : Stmt} {rest : List Stmt} {t u : TS} {e : Expr} {te : TE} {tt : TT}
end
section
variable {X : Cx} {K : PySem.W.Frag}
theorem ix_listK (hK : X.K = K) : IxR X (rIxL K) := by subst hK; exact ix_list
theorem op_notIn_seqK (hK : X.K = K) : OpR X (compareOp .NotIn) (rIn K true) := by subst hK; exact op_notIn_seq
end
end L2
set_option Elab.async false
set_option linter.all false
set_option maxRecDepth 100000
namespace L2
open PySem PySem.Spec PyProof.Rows
section
variable {X : Cx}
end
section
variable {K : PySem.W.Frag} {S : List Addr} {H H' H0 : Hp} {E E' : Hp → V → Prop} {σ : St} {te ta tb ts : TE} {t tr : TA} {tl th : TO}
instance {a : Addr} {xs : List V} : Mo (fun H v => v = .ref a ∧ SqT K (Vw S H) a xs) := ⟨fun e h => ⟨h.1, (Vw.same e).seqT h.2⟩⟩
end
end L2
set_option Elab.async false
set_option linter.all false
set_option maxRecDepth 100000
namespace L2
open PySem PySem.Spec PyProof.Rows
section
variable {prog : Program} {w : World} {A : Around} {R : Result → Shared → Prop} {s : Shared} {elt tg iter tg2 iter2 : Expr} {scope : Scope} {pos : Pos} {it acc : Value} {env : Env}
end
end L2
set_option Elab.async false
set_option linter.all false
set_option maxRecDepth 100000
namespace L2
open PySem PySem.Spec PyProof.Rows
end L2
set_option Elab.async false
set_option linter.all false
set_option maxRecDepth 100000
namespace L2
open PySem PySem.Spec PyProof.Rows
section
variable {X : Cx} {scope : Scope} {own frn : List Str} {fr : List Nat} {elt tg iter tg2 iter2 : Expr} {pos : Pos} {wi wi2 : TI} {g g2 : TG} {te : TE}
end
end L2
set_option Elab.async false
set_option linter.all false
set_option maxRecDepth 100000
namespace L2
open PySem PySem.Spec PyProof.Rows
section
variable {own : Nat} {fr : List Nat} {g g2 : TG} {wi2 : TI} {te : TE} {σ : St} {H : Hp} {Qf : Hp → List V → Prop} {K : PySem.W.Frag}
end
section
variable {X : Cx}
theorem any_range (bs : List Bool) (tr : Nat → Bool) (h : ∀ i b, bs[i]? = some b → tr i = b) : (List.range bs.length).any tr = bs.any id := by
  rw [Bool.eq_iff_iff, List.any_eq_true, List.any_eq_true]
  constructor
  · rintro ⟨i, hi, q⟩
    have hi' := List.mem_range.mp hi
    rw [h i _ (List.getElem?_eq_getElem hi')] at q
    exact ⟨_, List.getElem_mem hi', q⟩
  · rintro ⟨b, hb, q⟩
    obtain ⟨i, hi⟩ := List.getElem?_of_mem hb
    exact ⟨i, List.mem_range.mpr (List.getElem?_eq_some_iff.mp hi).1, by rw [h i b hi]; exact q⟩
theorem call_any (hc : X.calm = true) : CallR X (.builtin "any") (fun xs H Q => ∃ (p : Addr) (bs : List Bool), xs = [.ref p] ∧ SqL X.K H p (bs.map V.bl) ∧ Q (.bl (bs.any id)) H) := by
  intro pins s σ H xs us Q I r h
  obtain ⟨p, bs, rfl, hx, q⟩ := h
  obtain ⟨u, rfl, rx⟩ := vals1 r
  cases rx
  obtain ⟨its, rv, pl, hz⟩ := I.list hx
  have hl := rv.length
  rw [List.length_map] at hl
  have hlt : p < s.heap.objs.size := by obtain ⟨o, n, e, _⟩ := pl; exact Heap.lt_size e
  refine call_any_walk (wpAny_pyIter_list pl.isList ?_)
  refine ⟨s.heap.objs.size, _, _, _, _, _, fun i => (bs[i]?).getD false, rfl, Walks.list (A := X.A.in1) (I.ok.hd hc) s.heap.objs.size p (Nat.ne_of_lt hlt) its.toArray, ⟨⟨_, Heap.get?_push_size _ rfl, rfl, rfl⟩, pl.isList.push _⟩, ?_, fun h' tk hk => ?_⟩
  · intro i v s' Q' E' hP hQ'
    have hP' : its[i]? = some v := by simpa using hP
    have hi : i < bs.length := by rw [hl]; exact (List.getElem?_eq_some_iff.mp hP').1
    obtain ⟨w, hw, rw'⟩ := rv.get (i := i) (x := .bl bs[i]) (by rw [List.getElem?_map, List.getElem?_eq_getElem hi]; rfl)
    rw [hw] at hP'
    cases hP'
    cases rw'
    have e : (bs[i]?).getD false = bs[i] := by rw [List.getElem?_eq_getElem hi]; rfl
    rw [← e]
    exact wpAny_truthy_bool hQ'
  · have e : (List.range its.toArray.size).any (fun i => (bs[i]?).getD false) = bs.any id := by
      rw [List.size_toArray, ← hl]
      exact any_range bs _ fun i b hb => by rw [hb]; rfl
    rw [e]
    refine ⟨.bl _, H, I.kept (h' := h') fun b o e => hk b o ?_ (Heap.get?_push_of_some _ e), rfl, q⟩
    intro z
    have z' : b = s.heap.objs.size := by simpa using z
    exact Nat.lt_irrefl _ (z' ▸ Heap.lt_size e)
end
end L2
set_option Elab.async false
set_option linter.all false
set_option maxRecDepth 100000
namespace L2
open PySem PySem.Spec PyProof.Rows
def oV : Option Int → V
  | some i => .int i
  | none => .non
section
variable {X : Cx}
theorem vals_opt : ∀ {os : List (Option Int)} {us : List Value}, Vals (os.map oV) us → ∀ y ∈ us, y = .none ∨ ∃ m t, y = .int m t
  | [], _, r, y, hy => by cases r; cases hy
  | o :: os, us, r, y, hy => by
    cases r with
    | cons r1 r2 =>
      rcases List.mem_cons.mp hy with rfl | hy
      · cases o with
        | none => exact .inl r1
        | some m => obtain ⟨t, rfl⟩ := r1; exact .inr ⟨m, t, rfl⟩
      · exact vals_opt r2 y hy
theorem count_opt (n : Int) : ∀ {os : List (Option Int)} {us : List Value}, Vals (os.map oV) us → us.countP (isInt n) = os.count (some n)
  | [], _, r => by cases r; rfl
  | o :: os, us, r => by
    cases r with
    | cons r1 r2 =>
      rw [List.countP_cons, List.count_cons, count_opt n r2]
      cases o with
      | none => rw [show (_ : Value) = .none from r1]; rfl
      | some m =>
        obtain ⟨t, rfl⟩ := r1
        by_cases e : m = n
        · subst e; simp [isInt]
        · have e1 : ((some m : Option Int) == some n) = false := by simpa using e
          have e2 : isInt n (.int m t) = false := by simpa [isInt] using e
          rw [e1, e2]
theorem mt_countN : MtR X "tuple.count" (fun x vs H Q => ∃ (a : Addr) (os : List (Option Int)) (n : Int), x = .ref a ∧ vs = [.int n] ∧ SqT X.K H a (os.map oV) ∧ Q (.int (os.count (some n) : Nat)) H) := by
  intro pins s σ H x v vs us Q I rx r h
  obtain ⟨a, os, n, rfl, rfl, ha, q⟩ := h
  obtain ⟨u, rfl, t, rfl⟩ := vals1 r
  cases rx
  obtain ⟨its, rv, ⟨⟨cls, dd, data, sl⟩, ho, hc, k, hd⟩, hzz⟩ := I.tuple ha
  simp only at hc hd
  subst hc hd
  refine call_meets PySem.F.slot_tuple_count ⟨_, ho, rfl⟩ PySem.F.entry_tuple_count (PySem.F.args_tuple_count_2 _ _) (SeqAt.tuple_countAt a its.toArray k dd sl (.int n t) (isInt n)) ⟨ho, fun y hy => ?_, ?_⟩
  · rcases vals_opt rv y (by simpa using hy) with rfl | ⟨m, t', rfl⟩
    · exact SeqAt.EqAt.none_int n t
    · exact SeqAt.EqAt.int_int m t' n t
  · have e : (its.toArray.toList.countP (isInt n)) = os.count (some n) := by
      simp only [List.toList_toArray]
      exact count_opt n rv
    rw [e]
    exact ⟨.int _, H, I.tok _, ⟨_, rfl⟩, q⟩
theorem mt_countNK {K : PySem.W.Frag} (hK : X.K = K) : MtR X "tuple.count" (fun x vs H Q => ∃ (a : Addr) (os : List (Option Int)) (n : Int), x = .ref a ∧ vs = [.int n] ∧ SqT K H a (os.map oV) ∧ Q (.int (os.count (some n) : Nat)) H) := by subst hK; exact mt_countN
end
section
variable {K : PySem.W.Frag} {own : Nat} {fr : List Nat} {g : TG} {te : TE} {σ : St} {H : Hp} {Qf : Hp → List V → Prop}
theorem comp_fnE {k : Sk} {a : Addr} {xs vs : List V} (SH : St → Prop) (hn : xs.length ≤ 1000) (hl : vs.length = xs.length) (ha : ∀ H', Same H H' → SqK k K H' a xs) (hσ : SH (blk own fr σ))
    (hs : ∀ (i : Nat) x v p σ H1, xs[i]? = some x → vs[i]? = some v → H1 p = none → SH σ → Same H H1 → ∀ Q : V → St → Hp → Prop, (∀ σ2 H4, SH σ2 → Same H1 H4 → Q v σ2 H4) → g (.ref p) σ (upd H1 p (.tup [.int (i : Nat), x])) fun σ2 H2 => te σ2 H2 fun y H4 => Q y σ2 H4)
    (hd : ∀ H', Same H H' → Qf H' vs) :
    ∃ W : Nat → Nat → List V → St → Hp → Prop, (∃ m, W 0 m [] (blk own fr σ) H) ∧ ∀ i m ys σ' H, W i m ys σ' H →
      ((Ite K k a).stop i H ∧ Qf H ys) ∨
      ((Ite K k a).go i H ∧ ∃ N : List V → St → Hp → Prop, (∀ ys' σ2 H2, N ys' σ2 H2 → ∃ m', m' < m ∧ W (i + 1) m' ys' σ2 H2) ∧
        ∀ x H', (Ite K k a).yld i H x H' → g x σ' H' fun σ2 H2 => tAll σ2 H2 fun b H3 => if b = true then te σ2 H3 fun y H4 => ys.length < sizeLine ∧ N (ys ++ [y]) σ2 H4 else N ys σ2 H3) := by
  refine comp_fn SH hn hl hσ (fun H' s => ⟨xs, ha H' s, rfl⟩) (fun i H' hi s => ⟨xs, xs[i], ha H' s, List.getElem?_eq_getElem hi⟩) (fun i v x σ H1 H2 hi hv sh s y Q k => ?_) hd
  obtain ⟨q, hq, rfl, hy⟩ := y
  obtain ⟨x, h1, rfl⟩ := hy xs (ha H1 s)
  exact hs i x v q σ H1 h1 hv hq sh s Q k
end
end L2
set_option Elab.async false
set_option linter.all false
set_option maxRecDepth 100000
namespace L2
open PySem PySem.Spec PyProof.Rows
theorem below_go {xs : Array Nat} {j : Nat} (hs : xs.toList.Pairwise (· < ·)) : ∀ (fuel lo hi : Nat), hi - lo ≤ fuel → lo ≤ hi → hi ≤ xs.size → (∀ i v, i < lo → xs[i]? = some v → v < j) → (∀ i v, hi ≤ i → xs[i]? = some v → j ≤ v) →
    SetTable.below.go xs j fuel lo hi ≤ xs.size ∧ (∀ i v, i < SetTable.below.go xs j fuel lo hi → xs[i]? = some v → v < j) ∧ (∀ i v, SetTable.below.go xs j fuel lo hi ≤ i → xs[i]? = some v → j ≤ v) := by
  have mono : ∀ i k u v, i < k → xs[i]? = some u → xs[k]? = some v → u < v := fun i k u v hik hu hv => by
    rw [← Array.getElem?_toList] at hu hv
    obtain ⟨h1, e1⟩ := List.getElem?_eq_some_iff.mp hu
    obtain ⟨h2, e2⟩ := List.getElem?_eq_some_iff.mp hv
    rw [← e1, ← e2]
    exact List.pairwise_iff_getElem.mp hs i k h1 h2 hik
  intro fuel
  induction fuel with
  | zero =>
    intro lo hi h1 h2 h3 h4 h5
    have e : hi = lo := by omega
    subst e
    exact ⟨h3, h4, h5⟩
  | succ fuel ih =>
    intro lo hi h1 h2 h3 h4 h5
    have e : SetTable.below.go xs j (fuel + 1) lo hi = if lo < hi then (if xs.getD ((lo + hi) / 2) j < j then SetTable.below.go xs j fuel ((lo + hi) / 2 + 1) hi else SetTable.below.go xs j fuel lo ((lo + hi) / 2)) else lo := rfl
    rw [e]
    by_cases hlt : lo < hi
    · rw [if_pos hlt]
      have hm : (lo + hi) / 2 < xs.size := by omega
      have hg : xs[(lo + hi) / 2]? = some (xs.getD ((lo + hi) / 2) j) := by
        rw [Array.getD_eq_getD_getElem?, Array.getElem?_eq_getElem hm]; rfl
      by_cases hc : xs.getD ((lo + hi) / 2) j < j
      · rw [if_pos hc]
        refine ih _ _ (by omega) (by omega) h3 (fun i v hi' hv => ?_) h5
        rcases Nat.lt_or_ge i ((lo + hi) / 2) with z | z
        · exact Nat.lt_trans (mono _ _ _ _ z hv hg) hc
        · have : i = (lo + hi) / 2 := by omega
          subst this
          rw [hg] at hv
          rw [← Option.some.inj hv]; exact hc
      · rw [if_neg hc]
        refine ih _ _ (by omega) (by omega) (by omega) h4 (fun i v hi' hv => ?_)
        rcases Nat.lt_or_ge ((lo + hi) / 2) i with z | z
        · have := mono _ _ _ _ z hg hv
          omega
        · have : i = (lo + hi) / 2 := by omega
          subst this
          rw [hg] at hv
          rw [← Option.some.inj hv]; omega
    · rw [if_neg hlt]
      have e : hi = lo := by omega
      subst e
      exact ⟨h3, h4, h5⟩
theorem below_ok' {xs : Array Nat} (hs : xs.toList.Pairwise (· < ·)) (j : Nat) : SetTable.below xs j ≤ xs.size ∧ (∀ i v, i < SetTable.below xs j → xs[i]? = some v → v < j) ∧ (∀ i v, SetTable.below xs j ≤ i → xs[i]? = some v → j ≤ v) :=
  below_go hs xs.size 0 xs.size (by omega) (Nat.zero_le _) (Nat.le_refl _) (fun i v h => absurd h (Nat.not_lt_zero _)) (fun i v h e => by rw [Array.getElem?_eq_none h] at e; cases e)
def slotG (xs : Array Nat) (i : Nat) : Nat := if i = 0 then 0 else (xs[i - 1]?).getD 0 + 1
theorem below_slot {xs : Array Nat} (hs : xs.toList.Pairwise (· < ·)) {i : Nat} (hi : i ≤ xs.size) : SetTable.below xs (slotG xs i) = i := by
  obtain ⟨h1, h2, h3⟩ := below_ok' hs (slotG xs i)
  have mono : ∀ i k u v, i < k → xs[i]? = some u → xs[k]? = some v → u < v := fun i k u v hik hu hv => by
    rw [← Array.getElem?_toList] at hu hv
    obtain ⟨h1, e1⟩ := List.getElem?_eq_some_iff.mp hu
    obtain ⟨h2, e2⟩ := List.getElem?_eq_some_iff.mp hv
    rw [← e1, ← e2]
    exact List.pairwise_iff_getElem.mp hs i k h1 h2 hik
  rcases Nat.lt_trichotomy (SetTable.below xs (slotG xs i)) i with z | z | z
  · exfalso
    have hlt : i - 1 < xs.size := by omega
    have e : xs[i - 1]? = some xs[i - 1] := Array.getElem?_eq_getElem hlt
    have := h3 (i - 1) _ (by omega) e
    unfold slotG at this
    rw [if_neg (by omega), e] at this
    have : xs[i - 1] + 1 ≤ xs[i - 1] := this
    omega
  · exact z
  · exfalso
    have hlt : i < xs.size := by omega
    have e : xs[i]? = some xs[i] := Array.getElem?_eq_getElem hlt
    have := h2 i _ z e
    unfold slotG at this
    by_cases h0 : i = 0
    · rw [if_pos h0] at this; omega
    · have hlt' : i - 1 < xs.size := by omega
      have e' : xs[i - 1]? = some xs[i - 1] := Array.getElem?_eq_getElem hlt'
      rw [if_neg h0, e'] at this
      have this : xs[i] < xs[i - 1] + 1 := this
      have := mono (i - 1) i _ _ (by omega) e' e
      omega
def lpN (mask : Nat) : Nat → Nat × Nat → Nat × Nat
  | 0, p => p
  | n + 1, p => lpN mask n (SetTable.leap mask p.1 p.2)
theorem lpN_add (mask : Nat) : ∀ (a b : Nat) (p : Nat × Nat), lpN mask (a + b) p = lpN mask b (lpN mask a p)
  | 0, b, p => by rw [Nat.zero_add]; rfl
  | a + 1, b, p => by
    rw [show a + 1 + b = (a + b) + 1 by omega]
    exact lpN_add mask a b _
theorem lpN_zero (mask : Nat) : ∀ (k : Nat) (p : Nat × Nat), p.2 < 32 ^ k → p.1 ≤ mask → ∃ i, i ≤ mask ∧ lpN mask k p = (i, 0)
  | 0, p, h, hi => ⟨p.1, hi, by
      obtain ⟨a, b⟩ := p
      have : b = 0 := by have h : b < 32 ^ 0 := h; omega
      subst this; rfl⟩
  | k + 1, p, h, hi => by
    refine lpN_zero mask k _ ?_ ?_
    · show p.2 / 32 < 32 ^ k
      rw [Nat.pow_succ] at h
      omega
    · show (p.1 * 5 + 1 + p.2 / 32) % (mask + 1) ≤ mask
      have := Nat.mod_lt (p.1 * 5 + 1 + p.2 / 32) (show 0 < mask + 1 by omega)
      omega
theorem lg7 : ∀ i j : Fin 8, ∃ n : Fin 8, (lpN 7 n.val (i.val, 0)).1 = j.val := by decide +kernel
theorem lg31 : ∀ i j : Fin 32, ∃ n : Fin 32, (lpN 31 n.val (i.val, 0)).1 = j.val := by decide +kernel
theorem orbit {mask : Nat} (hm : mask = 7 ∨ mask = 31) {i pt j : Nat} (hi : i ≤ mask) (hp : pt < 2 ^ 64) (hj : j ≤ mask) : ∃ n, n ≤ mask + 13 ∧ (lpN mask n (i, pt)).1 = j := by
  obtain ⟨i', hi', e⟩ := lpN_zero mask 13 (i, pt) (show pt < 32 ^ 13 by omega) hi
  rcases hm with rfl | rfl
  · obtain ⟨n, hn⟩ := lg7 ⟨i', by omega⟩ ⟨j, by omega⟩
    exact ⟨13 + n.val, by have := n.isLt; omega, by rw [lpN_add, e]; exact hn⟩
  · obtain ⟨n, hn⟩ := lg31 ⟨i', by omega⟩ ⟨j, by omega⟩
    exact ⟨13 + n.val, by have := n.isLt; omega, by rw [lpN_add, e]; exact hn⟩
def advN (t : SetTable) : Nat → SetTable.Probe → SetTable.Probe
  | 0, p => p
  | n + 1, p => advN t n (t.advance p)
theorem advN_add (t : SetTable) : ∀ (a b : Nat) (p : SetTable.Probe), advN t (a + b) p = advN t b (advN t a p)
  | 0, b, p => by rw [Nat.zero_add]; rfl
  | a + 1, b, p => by
    rw [show a + 1 + b = (a + b) + 1 by omega]
    exact advN_add t a b _
theorem adv_dummy (t : SetTable) (p : SetTable.Probe) : (t.advance p).dummy = p.dummy := by
  unfold SetTable.advance
  split <;> rfl
theorem has_nil (j : Nat) : SetTable.has #[] j = false := rfl
theorem slot_cases {t : SetTable} (hd : t.dummies = #[]) (j : Nat) : t.slot j = .empty ∨ ∃ i, t.slot j = .live i := by
  unfold SetTable.slot
  dsimp only
  by_cases h : (t.place[SetTable.below t.place j]? == some j) = true
  · rw [if_pos h]; exact .inr ⟨_, rfl⟩
  · rw [if_neg h, hd, has_nil]
    exact .inl (if_neg (by decide))
theorem probe_of {t : SetTable} (hd : t.dummies = #[]) {hashAt : Nat → Int} {h : Int} (hh : ∀ i, (hashAt i == h) = false) : ∀ (fuel : Nat) (p : SetTable.Probe) (n : Nat), n < fuel → p.dummy = none → t.slot (advN t n p).j = .empty → ∃ j, SetTable.probe.go t hashAt h fuel p = some (.empty j none) ∧ t.slot j = .empty
  | 0, p, n, hn, _, _ => absurd hn (Nat.not_lt_zero _)
  | fuel + 1, p, n, hn, hp, hs => by
    have e : SetTable.probe.go t hashAt h (fuel + 1) p = (match t.slot p.j with
      | .empty => some (.empty p.j p.dummy)
      | .dummy => SetTable.probe.go t hashAt h fuel (t.advance { p with dummy := some p.j })
      | .live i => if (hashAt i == h) = true then some (.candidate p.j i (t.advance p)) else SetTable.probe.go t hashAt h fuel (t.advance p)) := rfl
    rcases slot_cases hd p.j with q | ⟨i, q⟩
    · refine ⟨p.j, ?_, q⟩
      rw [e, q, hp]
    · rw [e, q]
      simp only [hh, Bool.false_eq_true, if_false]
      cases n with
      | zero => rw [show advN t 0 p = p from rfl, q] at hs; cases hs
      | succ n => exact probe_of hd hh fuel (t.advance p) n (by omega) (by rw [adv_dummy]; exact hp) hs
def StP (mask : Nat) (p : Nat × Nat) : SetTable.Probe := { j := p.1, more := SetTable.runEnd mask p.1 - p.1, i := p.1, perturb := p.2, dummy := none }
theorem adv_run (t : SetTable) (i pt : Nat) : ∀ (m j : Nat), advN t (m + 1) { j := j, more := m, i := i, perturb := pt, dummy := none } = StP t.mask (SetTable.leap t.mask i pt)
  | 0, j => rfl
  | m + 1, j => adv_run t i pt m (j + 1)
theorem run_le (mask i : Nat) : SetTable.runEnd mask i - i ≤ 9 := by
  unfold SetTable.runEnd
  split <;> omega
theorem adv_leaps (t : SetTable) : ∀ (k : Nat) (p : Nat × Nat), ∃ n, n ≤ 10 * k ∧ advN t n (StP t.mask p) = StP t.mask (lpN t.mask k p)
  | 0, p => ⟨0, Nat.le_refl _, rfl⟩
  | k + 1, p => by
    obtain ⟨n, hn, e⟩ := adv_leaps t k (SetTable.leap t.mask p.1 p.2)
    refine ⟨(SetTable.runEnd t.mask p.1 - p.1 + 1) + n, by have := run_le t.mask p.1; omega, ?_⟩
    rw [advN_add]
    have e2 : advN t (SetTable.runEnd t.mask p.1 - p.1 + 1) (StP t.mask p) = StP t.mask (SetTable.leap t.mask p.1 p.2) := adv_run t p.1 p.2 _ _
    rw [e2]
    exact e
theorem bits_lt (h : Int) : SetTable.bits h < 2 ^ 64 := by
  unfold SetTable.bits
  have h1 := Int.emod_lt_of_pos h (show (0 : Int) < 2 ^ 64 by decide)
  have h2 := Int.emod_nonneg h (show (2 ^ 64 : Int) ≠ 0 by decide)
  omega
theorem free_ok {t : SetTable} (hm : t.mask = 7 ∨ t.mask = 31) (hd : t.dummies = #[]) {j0 : Nat} (hj : j0 ≤ t.mask) (hs : t.slot j0 = .empty) (h : Int) : ∃ j, t.freeSlot h = some (j, false) ∧ t.slot j = .empty := by
  have hlt := Nat.mod_lt (SetTable.bits h) (show 0 < t.mask + 1 by omega)
  obtain ⟨k, hk, e⟩ := orbit hm (i := SetTable.bits h % (t.mask + 1)) (pt := SetTable.bits h) (by omega) (bits_lt h) hj
  obtain ⟨n, hn, e2⟩ := adv_leaps t k (SetTable.bits h % (t.mask + 1), SetTable.bits h)
  obtain ⟨j, e3, e4⟩ := probe_of hd (hashAt := fun _ => h + 1) (h := h) (fun i => beq_eq_false_iff_ne.mpr (by omega)) (10 * SetTable.turns t.mask) (StP t.mask (SetTable.bits h % (t.mask + 1), SetTable.bits h)) n (by unfold SetTable.turns; omega) rfl (by
    rw [e2]
    show t.slot (lpN t.mask k (SetTable.bits h % (t.mask + 1), SetTable.bits h)).1 = _
    rw [e]; exact hs)
  refine ⟨j, ?_, e4⟩
  have e5 : t.probe (fun x => h + 1) h (t.probeStart h) = some (.empty j none) := e3
  unfold SetTable.freeSlot
  rw [e5]
  rfl
theorem gap : ∀ (l : List Nat) (b : Nat), l.Pairwise (· < ·) → (∀ x ∈ l, b ≤ x) → ∃ j, b ≤ j ∧ j ≤ b + l.length ∧ j ∉ l
  | [], b, _, _ => ⟨b, Nat.le_refl _, Nat.le_refl _, List.not_mem_nil⟩
  | x :: r, b, h, hb => by
    obtain ⟨h1, h2⟩ := List.pairwise_cons.mp h
    by_cases z : x = b
    · obtain ⟨j, j1, j2, j3⟩ := gap r (b + 1) h2 fun y hy => by have := h1 y hy; omega
      refine ⟨j, by omega, by rw [List.length_cons]; omega, fun m => ?_⟩
      rcases List.mem_cons.mp m with m | m
      · omega
      · exact j3 m
    · refine ⟨b, Nat.le_refl _, by omega, fun m => ?_⟩
      have hx := hb x (List.mem_cons_self ..)
      rcases List.mem_cons.mp m with m | m
      · exact z m.symm
      · have := h1 b m; omega
theorem slot_empty {t : SetTable} (hd : t.dummies = #[]) {j : Nat} (h : j ∉ t.place.toList) : t.slot j = .empty := by
  rcases slot_cases hd j with q | ⟨i, q⟩
  · exact q
  · exfalso
    unfold SetTable.slot at q
    dsimp only at q
    by_cases z : (t.place[SetTable.below t.place j]? == some j) = true
    · have z' := eq_of_beq z
      rw [← Array.getElem?_toList] at z'
      exact h (List.mem_of_getElem? z')
    · rw [if_neg z, hd, has_nil] at q
      simp at q
theorem empty_at {t : SetTable} {j : Nat} (h : t.slot j = .empty) : t.place[SetTable.below t.place j]? ≠ some j := fun z => by
  unfold SetTable.slot at h
  dsimp only at h
  rw [if_pos (by rw [z]; exact beq_self_eq_true _)] at h
  cases h
theorem insert_list {α : Type} (xs : Array α) (p : Nat) (x : α) : (SetTable.insertAt xs p x).toList = xs.toList.take p ++ x :: xs.toList.drop p := by
  unfold SetTable.insertAt
  rw [Array.toList_append, Array.toList_push, Array.toList_extract, Array.toList_extract]
  simp only [List.extract_eq_drop_take, List.drop_zero, Nat.sub_zero]
  rw [List.append_assoc]
  congr 1
  rw [List.singleton_append]
  congr 1
  rw [List.take_of_length_le]
  rw [List.length_drop, Array.length_toList]
  exact Nat.le_refl _
theorem insert_sorted {xs : Array Nat} (hs : xs.toList.Pairwise (· < ·)) {j : Nat} (h : xs[SetTable.below xs j]? ≠ some j) : (SetTable.insertAt xs (SetTable.below xs j) j).toList.Pairwise (· < ·) := by
  obtain ⟨h1, h2, h3⟩ := below_ok' hs j
  rw [insert_list]
  have hgt : ∀ y ∈ xs.toList.drop (SetTable.below xs j), j < y := fun y hy => by
    obtain ⟨i, hi⟩ := List.mem_iff_getElem?.mp hy
    rw [List.getElem?_drop, Array.getElem?_toList] at hi
    have hle := h3 _ _ (Nat.le_add_right _ _) hi
    rcases Nat.lt_or_ge j y with z | z
    · exact z
    · exfalso
      have e : y = j := by omega
      subst e
      cases i with
      | zero => exact h hi
      | succ i =>
        have hlt : SetTable.below xs y < xs.size := by
          have := (Array.getElem?_eq_some_iff.mp hi).1
          omega
        have e1 : xs[SetTable.below xs y]? = some xs[SetTable.below xs y] := Array.getElem?_eq_getElem hlt
        have h4 := h3 _ _ (Nat.le_refl _) e1
        have h5 : xs[SetTable.below xs y] < y := by
          rw [← Array.getElem?_toList] at hi e1
          obtain ⟨q1, r1⟩ := List.getElem?_eq_some_iff.mp e1
          obtain ⟨q2, r2⟩ := List.getElem?_eq_some_iff.mp hi
          have := List.pairwise_iff_getElem.mp hs _ _ q1 q2 (by omega)
          rw [r1, r2] at this
          exact this
        omega
  have hlt : ∀ y ∈ xs.toList.take (SetTable.below xs j), y < j := fun y hy => by
    obtain ⟨i, hi⟩ := List.mem_iff_getElem?.mp hy
    have hi2 : i < SetTable.below xs j := by
      have := (List.getElem?_eq_some_iff.mp hi).1
      rw [List.length_take] at this
      omega
    rw [List.getElem?_take_of_lt hi2, Array.getElem?_toList] at hi
    exact h2 _ _ hi2 hi
  refine List.pairwise_append.mpr ⟨hs.sublist (List.take_sublist _ _), List.pairwise_cons.mpr ⟨hgt, hs.sublist (List.drop_sublist _ _)⟩, fun a ha b hb => ?_⟩
  rcases List.mem_cons.mp hb with rfl | hb
  · exact hlt a ha
  · exact Nat.lt_trans (hlt a ha) (hgt b hb)
structure Tb (L : Bool) (t : SetTable) (n m : Nat) : Prop where
  mask : (t.mask = 7 ∧ n ≤ m) ∨ (t.mask = 31 ∧ n ≤ 12)
  dums : t.dummies = #[]
  plain : t.plain = true
  led : t.led = L
  size : t.place.size = n
  rise : t.place.toList.Pairwise (· < ·)
theorem Tb.fits {L : Bool} {t : SetTable} {n m : Nat} (T : Tb L t n m) (hm : m ≤ 6) : t.fits n = true := by
  unfold SetTable.fits SetTable.fill
  rw [T.size, T.dums]
  have : n + (#[] : Array Nat).size ≤ t.mask := by
    show n + 0 ≤ _
    rcases T.mask with ⟨a, b⟩ | ⟨a, b⟩ <;> omega
  rw [decide_eq_true this, beq_self_eq_true]
  rfl
theorem Tb.lay {L : Bool} {t : SetTable} {es : Array (Int × Value)} (T : Tb L t es.size 4) (hn : es.size ≤ 11) (h : Int) (x : Value) :
    ∃ es' t', layNew t es h x = (es', t', false, false) ∧ es'.toList.Perm ((h, x) :: es.toList) ∧ Tb L t' es'.size 5 ∧ es'.size = es.size + 1 := by
  have hm : t.mask = 7 ∨ t.mask = 31 := by rcases T.mask with ⟨a, _⟩ | ⟨a, _⟩ <;> simp [a]
  obtain ⟨j0, _, j2, j3⟩ := gap t.place.toList 0 T.rise fun x _ => Nat.zero_le _
  have hj0 : j0 ≤ t.mask := by
    rw [Array.length_toList, T.size] at j2
    rcases T.mask with ⟨a, b⟩ | ⟨a, b⟩ <;> omega
  obtain ⟨j, ej, hj⟩ := free_ok hm T.dums hj0 (slot_empty T.dums j3) h
  have esz : (SetTable.insertAt es (SetTable.below t.place j) (h, x)).size = es.size + 1 := by
    rw [← Array.length_toList, insert_list, List.length_append, List.length_cons, List.length_take, List.length_drop, Array.length_toList]
    omega
  have eput : t.put j = ({ t with place := SetTable.insertAt t.place (SetTable.below t.place j) j, dummies := #[] }, SetTable.below t.place j) := by
    unfold SetTable.put
    dsimp only
    rw [T.dums, has_nil]
    rfl
  have T' : Tb L { t with place := SetTable.insertAt t.place (SetTable.below t.place j) j, dummies := #[] } (es.size + 1) 5 := by
    refine ⟨?_, rfl, T.plain, T.led, ?_, insert_sorted T.rise (empty_at hj)⟩
    · rcases T.mask with ⟨a, b⟩ | ⟨a, b⟩
      · exact .inl ⟨a, by omega⟩
      · exact .inr ⟨a, by omega⟩
    · show (SetTable.insertAt t.place _ j).size = _
      rw [← Array.length_toList, insert_list, List.length_append, List.length_cons, List.length_take, List.length_drop, Array.length_toList, T.size]
      omega
  refine ⟨SetTable.insertAt es (SetTable.below t.place j) (h, x), _, ?_, ?_, by rw [esz]; exact T', esz⟩
  · unfold layNew
    rw [ej]
    dsimp only
    rw [eput]
    dsimp only
    rw [esz]
    unfold SetTable.orStandIn
    rw [T'.fits (by decide)]
    rfl
  · rw [insert_list]
    exact List.perm_middle.trans (List.Perm.cons _ (by rw [List.take_append_drop]))
end L2
set_option Elab.async false
set_option linter.all false
set_option maxRecDepth 100000
namespace L2
open PySem PySem.Spec PyProof.Rows
theorem none_at : ∀ (l : List (Option Nat)), (l.filterMap id).length < l.length → ∃ j : Nat, l[j]? = some none
  | [], h => absurd h (Nat.not_lt_zero _)
  | none :: r, _ => ⟨0, rfl⟩
  | some a :: r, h => by
    obtain ⟨j, hj⟩ := none_at r (by
      rw [List.filterMap_cons_some (f := id) (a := some a) (b := a) rfl, List.length_cons, List.length_cons] at h
      omega)
    exact ⟨j + 1, hj⟩
theorem set_perm {l : List (Option Nat)} {j k : Nat} (h : l[j]? = some none) : ((l.set j (some k)).filterMap id).Perm (k :: l.filterMap id) := by
  obtain ⟨hj, e⟩ := List.getElem?_eq_some_iff.mp h
  have e1 : l = l.take j ++ none :: l.drop (j + 1) := by
    rw [← e, List.getElem_cons_drop hj, List.take_append_drop]
  have e2 : l.set j (some k) = l.take j ++ some k :: l.drop (j + 1) := by
    rw [List.set_eq_take_append_cons_drop, if_pos hj]
  have e3 : l.filterMap id = (l.take j).filterMap id ++ (l.drop (j + 1)).filterMap id := by
    have := congrArg (List.filterMap id) e1
    rw [this, List.filterMap_append, List.filterMap_cons_none (f := id) rfl]
  rw [e2, e3, List.filterMap_append, List.filterMap_cons_some (f := id) (a := some k) (b := k) rfl]
  exact List.perm_middle
theorem free_of (mask : Nat) (owner : Array (Option Nat)) : ∀ (fuel i pt n : Nat), n < fuel → owner.getD (lpN mask n (i, pt)).1 (some 0) = none → ∃ j, SetTable.layClean.free mask owner fuel i pt = some j ∧ owner.getD j (some 0) = none
  | 0, i, pt, n, h, _ => absurd h (Nat.not_lt_zero _)
  | fuel + 1, i, pt, n, h, hn => by
    have e : SetTable.layClean.free mask owner (fuel + 1) i pt = (match List.find? (fun k => (owner.getD (i + k) (some 0)).isNone) (List.range (SetTable.runEnd mask i + 1 - i)) with
      | some k => some (i + k)
      | none => SetTable.layClean.free mask owner fuel (SetTable.leap mask i pt).1 (SetTable.leap mask i pt).2) := rfl
    rw [e]
    cases q : List.find? (fun k => (owner.getD (i + k) (some 0)).isNone) (List.range (SetTable.runEnd mask i + 1 - i)) with
    | some k =>
      refine ⟨i + k, rfl, ?_⟩
      have := List.find?_some q
      exact Option.isNone_iff_eq_none.mp this
    | none =>
      cases n with
      | zero =>
        exfalso
        have hr : 0 ∈ List.range (SetTable.runEnd mask i + 1 - i) := List.mem_range.mpr (by unfold SetTable.runEnd; split <;> omega)
        have := List.find?_eq_none.mp q 0 hr
        rw [show lpN mask 0 (i, pt) = (i, pt) from rfl] at hn
        have hn : owner.getD i (some 0) = none := hn
        rw [Nat.add_zero, hn] at this
        exact this rfl
      | succ n => exact free_of mask owner fuel _ _ n (by omega) hn
theorem getD_at {owner : Array (Option Nat)} {j : Nat} (h : owner.getD j (some 0) = none) : owner.toList[j]? = some none := by
  rw [Array.getD_eq_getD_getElem?] at h
  rw [Array.getElem?_toList]
  cases q : owner[j]? with
  | none => rw [q] at h; cases h
  | some v => rw [q] at h; rw [show v = none from h]
def layStep (mask : Nat) (acc : Option (Array (Option Nat) × Nat)) (h : Int) : Option (Array (Option Nat) × Nat) := do
  let x ← acc
  match x with
  | (owner, k) => do
    let j ← SetTable.layClean.free mask owner (SetTable.turns mask) (SetTable.bits h % (mask + 1)) (SetTable.bits h)
    pure (owner.setIfInBounds j (some k), k + 1)
theorem clean_fold {mask : Nat} (hm : mask = 7 ∨ mask = 31) : ∀ (hs : List Int) (owner : Array (Option Nat)) (k : Nat), owner.size = mask + 1 → (owner.toList.filterMap id).Perm (List.range k) → k + hs.length ≤ mask →
    ∃ owner', hs.foldl (layStep mask) (some (owner, k)) = some (owner', k + hs.length) ∧ owner'.size = mask + 1 ∧ (owner'.toList.filterMap id).Perm (List.range (k + hs.length))
  | [], owner, k, h1, h2, _ => ⟨owner, rfl, h1, h2⟩
  | h :: hs, owner, k, h1, h2, h3 => by
    rw [List.length_cons] at h3
    obtain ⟨j0, hj0⟩ := none_at owner.toList (by rw [h2.length_eq, List.length_range, Array.length_toList]; omega)
    have hj0l := (List.getElem?_eq_some_iff.mp hj0).1
    rw [Array.length_toList] at hj0l
    have hlt := Nat.mod_lt (SetTable.bits h) (show 0 < mask + 1 by omega)
    obtain ⟨n, hn, e⟩ := orbit hm (i := SetTable.bits h % (mask + 1)) (pt := SetTable.bits h) (j := j0) (by omega) (bits_lt h) (by omega)
    obtain ⟨j, ej, hj⟩ := free_of mask owner (SetTable.turns mask) (SetTable.bits h % (mask + 1)) (SetTable.bits h) n (by unfold SetTable.turns; omega) (by
      rw [e, Array.getD_eq_getD_getElem?, ← Array.getElem?_toList, hj0]; rfl)
    have hjl := getD_at hj
    have es : layStep mask (some (owner, k)) h = some (owner.setIfInBounds j (some k), k + 1) := by
      show (do let j ← SetTable.layClean.free mask owner (SetTable.turns mask) (SetTable.bits h % (mask + 1)) (SetTable.bits h); pure (owner.setIfInBounds j (some k), k + 1)) = _
      rw [ej]; rfl
    have hp : ((owner.setIfInBounds j (some k)).toList.filterMap id).Perm (List.range (k + 1)) := by
      rw [Array.toList_setIfInBounds]
      refine (set_perm hjl).trans ?_
      rw [List.range_succ]
      exact (List.Perm.cons _ h2).trans (List.perm_append_singleton _ _).symm
    obtain ⟨o', r1, r2, r3⟩ := clean_fold hm hs (owner.setIfInBounds j (some k)) (k + 1) (by rw [Array.size_setIfInBounds]; exact h1) hp (by omega)
    refine ⟨o', ?_, r2, ?_⟩
    · rw [List.foldl_cons, es, r1, List.length_cons]
      congr 2; omega
    · rw [List.length_cons, show k + (hs.length + 1) = k + 1 + hs.length by omega]; exact r3
theorem owner_list (owner : Array (Option Nat)) : (List.range owner.size).map (fun j => owner.getD j none) = owner.toList := by
  apply List.ext_getElem?
  intro i
  rw [List.getElem?_map]
  by_cases h : i < owner.size
  · rw [List.getElem?_range h, Array.getElem?_toList, Array.getElem?_eq_getElem h]
    simp [h]
  · rw [List.getElem?_eq_none (by rw [List.length_range]; omega), List.getElem?_eq_none (by rw [Array.length_toList]; omega)]; rfl
theorem laid_ok {mask : Nat} (hm : mask = 7 ∨ mask = 31) (fi mo : Nat) (L pl : Bool) (hs : Array Int) (hn : hs.size ≤ mask) : ∃ t order, SetTable.laid mask fi mo L pl hs = some (t, order) ∧ t.mask = mask ∧ t.dummies = #[] ∧ t.plain = pl ∧ t.led = L ∧ t.place.size = hs.size ∧ t.place.toList.Pairwise (· < ·) ∧ order.toList.Perm (List.range hs.size) := by
  obtain ⟨owner, e, hsz, hp⟩ := clean_fold hm hs.toList (Array.replicate (mask + 1) none) 0 (by rw [Array.size_replicate]) (by rw [Array.toList_replicate, List.filterMap_replicate_of_none rfl]; exact List.Perm.refl _) (by rw [Array.length_toList]; omega)
  rw [Nat.zero_add, Array.length_toList] at e hp
  have ec : SetTable.layClean mask hs = some owner := by
    have e2 : SetTable.layClean mask hs = Option.map (fun x => x.1) (Array.foldl (layStep mask) (some (Array.replicate (mask + 1) none, 0)) hs) := rfl
    rw [e2, ← Array.foldl_toList, e]; rfl
  have e1 : SetTable.laid mask fi mo L pl hs = some ({ mask := mask, place := (((List.range (mask + 1)).filterMap fun j => Option.map (fun x => (j, x)) (owner.getD j none)).map (·.1)).toArray, dummies := #[], finger := fi, led := L, moves := mo, plain := pl }, (((List.range (mask + 1)).filterMap fun j => Option.map (fun x => (j, x)) (owner.getD j none)).map (·.2)).toArray) := by
    unfold SetTable.laid
    rw [ec]; rfl
  have eo : (((List.range (mask + 1)).filterMap fun j => Option.map (fun x => (j, x)) (owner.getD j none)).map (·.2)) = owner.toList.filterMap id := by
    rw [List.map_filterMap, ← owner_list, List.filterMap_map, hsz]
    congr 1
    funext j
    show Option.map _ (Option.map _ _) = owner.getD j none
    cases owner.getD j none <;> rfl
  refine ⟨_, _, e1, rfl, rfl, rfl, rfl, ?_, ?_, ?_⟩
  · show (List.toArray _).size = _
    rw [List.size_toArray, List.length_map]
    have := congrArg List.length eo
    rw [List.length_map, hp.length_eq, List.length_range] at this
    exact this
  · show (List.toArray _).toList.Pairwise _
    rw [List.toList_toArray, List.map_filterMap]
    refine List.Pairwise.filterMap _ (fun a a' h b hb b' hb' => ?_) List.pairwise_lt_range
    have k1 : b = a := by
      cases q : owner.getD a none with
      | none => rw [q] at hb; cases hb
      | some z => rw [q] at hb; exact (Option.some.inj hb).symm
    have k2 : b' = a' := by
      cases q : owner.getD a' none with
      | none => rw [q] at hb'; cases hb'
      | some z => rw [q] at hb'; exact (Option.some.inj hb').symm
    rw [k1, k2]; exact h
  · show (List.toArray _).toList.Perm _
    rw [List.toList_toArray, eo]
    exact hp
theorem Tb.relay {L : Bool} {t : SetTable} {es : Array (Int × Value)} (T : Tb L t es.size 5) (h5 : es.size = 5) :
    ∃ es' t', relayAll t es (SetTable.grown es.size) = (es', t', false) ∧ es'.toList.Perm es.toList ∧ Tb L t' es'.size 4 := by
  obtain ⟨t', order, e, h1, h2, h3, h4, h6, h7, h8⟩ := laid_ok (mask := 31) (.inr rfl) t.finger (t.movedTo 31) t.led t.plain (es.map (·.1)) (by rw [Array.size_map]; omega)
  rw [Array.size_map] at h6 h8
  have er : t.relaid (es.map fun x => x.1) (SetTable.grown es.size) = some (t', order) := by
    unfold SetTable.relaid
    rw [h5]
    exact e
  have hfm : (Array.filterMap (fun x => es[x]?) order).toList.Perm es.toList := by
    rw [Array.toList_filterMap]
    refine (h8.filterMap _).trans ?_
    have : (List.range es.size).filterMap (fun x => es[x]?) = es.toList := by
      have : ∀ (l : List (Int × Value)), (List.range l.length).filterMap (fun x => l[x]?) = l := fun l => by
        have e0 : (List.range l.length).map (fun x => l[x]?) = l.map some := by
          apply List.ext_getElem?
          intro i
          rw [List.getElem?_map, List.getElem?_map]
          by_cases h : i < l.length
          · rw [List.getElem?_range h, List.getElem?_eq_getElem h]; simp [h]
          · rw [List.getElem?_eq_none (by rw [List.length_range]; omega), List.getElem?_eq_none (by omega)]; rfl
        have e1 : (List.range l.length).filterMap (fun x => l[x]?) = ((List.range l.length).map (fun x => l[x]?)).filterMap id := by rw [List.filterMap_map]; rfl
        rw [e1, e0, List.filterMap_map]
        show l.filterMap (fun x => some x) = l
        exact List.filterMap_some
      have h := this es.toList
      rw [Array.length_toList] at h
      simpa using h
    rw [this]
  have hz : (Array.filterMap (fun x => es[x]?) order).size = es.size := by
    rw [← Array.length_toList, hfm.length_eq, Array.length_toList]
  have T' : Tb L t' (Array.filterMap (fun x => es[x]?) order).size 4 := ⟨.inr ⟨h1, by omega⟩, h2, h3.trans T.plain, h4.trans T.led, by rw [hz]; exact h6, h7⟩
  refine ⟨Array.filterMap (fun x => es[x]?) order, t', ?_, hfm, T'⟩
  unfold relayAll
  rw [er]
  dsimp only
  rw [show coversAll order es.size = true from List.isPerm_iff.mpr h8, T'.fits (by decide)]
  rfl
theorem Tb.full {L : Bool} {t : SetTable} {n : Nat} (T : Tb L t n 5) : (t.tooFull = true ∧ n = 5) ∨ (t.tooFull = false ∧ Tb L t n 4) := by
  have e : t.tooFull = decide (n * 5 ≥ t.mask * 3) := by
    unfold SetTable.tooFull SetTable.fill
    rw [T.size, T.dums]; rfl
  rw [e]
  rcases T.mask with ⟨a, b⟩ | ⟨a, b⟩
  · by_cases h : n = 5
    · exact .inl ⟨decide_eq_true (by rw [a, h]; decide), h⟩
    · exact .inr ⟨decide_eq_false (by omega), ⟨.inl ⟨a, by omega⟩, T.dums, T.plain, T.led, T.size, T.rise⟩⟩
  · exact .inr ⟨decide_eq_false (by omega), ⟨.inr ⟨a, b⟩, T.dums, T.plain, T.led, T.size, T.rise⟩⟩
theorem pick_go {α : Type} (next : Nat → Nat) : ∀ (fuel k : Nat) (left : List α) (out : Array α), left.length ≤ fuel → (pickOrder.go next fuel k left out).toList.Perm (out.toList ++ left)
  | 0, k, left, out, h => by
    have : left = [] := List.length_eq_zero_iff.mp (by omega)
    subst this
    rw [List.append_nil]; exact List.Perm.refl _
  | fuel + 1, k, left, out, h => by
    have e : pickOrder.go next (fuel + 1) k left out = (match left[next k % left.length]? with
      | some x => pickOrder.go next fuel (k + 1) (left.eraseIdx (next k % left.length)) (out.push x)
      | none => out) := rfl
    rw [e]
    cases q : left[next k % left.length]? with
    | none =>
      have hl : left.length = 0 := by
        rcases Nat.eq_zero_or_pos left.length with z | z
        · exact z
        · have := Nat.mod_lt (next k) z
          rw [List.getElem?_eq_getElem this] at q; cases q
      rw [List.length_eq_zero_iff.mp hl, List.append_nil]
    | some x =>
      obtain ⟨hi, ex⟩ := List.getElem?_eq_some_iff.mp q
      refine (pick_go next fuel (k + 1) _ (out.push x) (by rw [List.length_eraseIdx_of_lt hi]; omega)).trans ?_
      rw [Array.toList_push, List.append_assoc]
      refine List.Perm.append_left _ ?_
      rw [List.eraseIdx_eq_take_drop_succ, List.singleton_append, ← ex]
      refine List.perm_middle.symm.trans ?_
      rw [List.getElem_cons_drop hi]
      first | done | rw [List.take_append_drop]
theorem pick_perm {α : Type} (next : Nat → Nat) (xs : Array α) : (pickOrder next xs).toList.Perm xs.toList := by
  have := pick_go next xs.size 0 xs.toList #[] (by rw [Array.length_toList]; exact Nat.le_refl _)
  exact this
end L2
set_option Elab.async false
set_option linter.all false
set_option maxRecDepth 100000
namespace L2
open PySem PySem.Spec PyProof.Rows
def ent (p : Int × Tok) : Int × Value := (hashInt p.1, .int p.1 p.2)
def SG (L : Bool) (h : Heap) (a : Addr) (ks : List (Int × Tok)) : Prop := ∃ o ep es t, h.get? a = some o ∧ o.ExactSet ∧ o.data = .set es ep t ∧ es.toList.Perm (ks.map ent) ∧ Tb L t es.size 4
theorem SG.keep {L : Bool} {h h' : Heap} {a : Addr} {l : List (Int × Tok)} (x : SG L h a l) (k : ∀ o, h.get? a = some o → h'.get? a = some o) : SG L h' a l := by
  obtain ⟨o, ep, es, t, e, r⟩ := x
  exact ⟨o, ep, es, t, k o e, r⟩
section
variable {prog : Program} {w : World} {A : Around} {E : Value → Shared → Prop} {s : Shared} {L : Bool} {a : Addr}
theorem elems_ent (prog : Program) (w : World) {es : Array (Int × Value)} {ks : List (Int × Tok)} (h : es.toList.Perm (ks.map ent)) : ElemsOf (intKind prog w) es.toList := by
  intro e he
  obtain ⟨p, hp, rfl⟩ := List.mem_map.mp (h.mem_iff.mp he)
  exact ⟨⟨p.1, intKind_is _ _ _ _, rfl⟩, rfl⟩
theorem add_SG {ks : List (Int × Tok)} {k : Int} {t : Tok} {Q : Bool → Shared → Prop} (hS : SG L s.heap a ks) (hlen : ks.length ≤ 11)
    (hQ : ∀ h' b, Heap.SameBut a s.heap h' → ((∃ p ∈ ks, p.1 = k) → SG L h' a ks) → ((∀ p ∈ ks, p.1 ≠ k) → SG L h' a ((k, t) :: ks)) → Q b { s with heap := h', toks := s.toks + 1 }) :
    wpAny (model prog w) A (setAdd a (.int k t)) Q E s := by
  obtain ⟨o, ep, es, tb, ho, hex, hd, hp, T⟩ := hS
  unfold setAdd
  refine wpAny_holding (wpAny_bind ((intKind prog w).pyHash (k := k) (intKind_is _ _ _ _) ?_))
  have hel := elems_ent prog w hp
  have hsz : es.size = ks.length := by rw [← Array.length_toList, hp.length_eq, List.length_map]
  have hfit := T.fits (by decide)
  have hscan : byScan (.int k t) es = true := byScan_of (knd := intKind prog w) rfl (by rw [hsz]; unfold scanBound; omega) hel
  unfold setAddHashed setAddHashedIn
  refine wpAny_holding (wpAny_bind (wpAny_setState_of (s := { s with toks := s.toks + 1 }) ho hd hfit ?_))
  dsimp only
  rw [hscan]
  simp only [↓reduceIte]
  unfold setAddByScan
  refine wpAny_bind ?_
  refine wpAny_bind (wpAny_rule ?_)
  refine wpAny_bind (wpAny_setScan_of (knd := intKind prog w) (k := k) (intKind_is _ _ _ _) ho hd hfit hel ?_)
  cases hr : List.findIdx? (fun e => (intKind prog w).is k e.2) es.toList with
  | some j =>
    dsimp only
    obtain ⟨hj, hpj, _⟩ := List.findIdx?_eq_some_iff_getElem.mp hr
    have hthere : ∃ p ∈ ks, p.1 = k := by
      obtain ⟨p, hp', e⟩ := List.mem_map.mp (hp.mem_iff.mp (List.getElem_mem hj))
      refine ⟨p, hp', ?_⟩
      rw [← e] at hpj
      obtain ⟨t', e2⟩ := Value.isInt_shape (show Value.isInt k (Value.int p.1 p.2) = true from hpj)
      injection e2
    refine wpAny_pure (wpAny_pure ?_)
    exact hQ s.heap false (Heap.SameBut.refl a s.heap) (fun _ => ⟨o, ep, es, tb, ho, hex, hd, hp, T⟩) fun hn => by
      obtain ⟨p, hp, e⟩ := hthere
      exact absurd e (hn p hp)
  | none =>
    dsimp only
    have hno : ∀ p ∈ ks, p.1 ≠ k := fun p hp' e => by
      have := List.findIdx?_eq_none_iff.mp hr (ent p) (hp.mem_iff.mpr (List.mem_map.mpr ⟨p, hp', rfl⟩))
      have h2 : (intKind prog w).is k (Value.int k p.2) = true := intKind_is _ _ _ _
      simp only [ent, e] at this
      rw [h2] at this
      cases this
    obtain ⟨es1, t1, e1, p1, T1, z1⟩ := T.lay (by omega) ((intKind prog w).hash k) (.int k t)
    have hpn : es1.toList.Perm (((k, t) :: ks).map ent) := p1.trans (List.Perm.cons _ hp)
    rw [e1]
    dsimp only
    refine wpAny_bind (wpAny_pure ?_)
    rw [if_pos T1.plain, hashByValue_scannable 8 (x := .int k t) rfl]
    refine wpAny_bind (wpAny_pure ?_)
    rw [if_pos (show plainKind (.int k t) = true from rfl)]
    refine wpAny_bind (wpAny_storeSet_of (s := { s with toks := s.toks + 1 }) ho hd ?_ (by rw [z1, sizeLine_eq]; omega))
    have g1 := Heap.get?_update_self (Obj.putSet es1 t1) ho (by rw [putSet_of _ _ hd]; rfl)
    rw [putSet_of _ _ hd] at g1
    rcases T1.full with ⟨f1, f5⟩ | ⟨f1, T4⟩
    · rw [f1]
      obtain ⟨es2, t2, e2, p2, T2⟩ := T1.relay f5
      rw [e2]
      simp only [Bool.not_false, Bool.and_true, if_true]
      refine wpAny_bind (wpAny_pure ?_)
      have z2 : es2.size = es1.size := by rw [← Array.length_toList, p2.length_eq, Array.length_toList]
      refine wpAny_bind (wpAny_storeSet_of (s := { s with heap := s.heap.update a (Obj.putSet es1 t1), toks := s.toks + 1 }) g1 rfl ?_ (by rw [z2, z1, sizeLine_eq]; omega))
      have g2 := Heap.get?_update_self (Obj.putSet es2 t2) g1 (by rw [putSet_of _ _ rfl]; rfl)
      rw [putSet_of _ _ rfl] at g2
      refine wpAny_pure (wpAny_pure ?_)
      exact hQ ((s.heap.update a (Obj.putSet es1 t1)).update a (Obj.putSet es2 t2)) true ((Heap.SameBut.update _ _ _).trans (Heap.SameBut.update _ _ _)) (fun ⟨p, hp, e⟩ => absurd e (hno p hp)) fun _ => ⟨_, _, es2, t2, g2, hex, rfl, p2.trans hpn, T2⟩
    · rw [f1]
      simp only [Bool.not_false, Bool.and_false, Bool.false_eq_true, if_false]
      refine wpAny_pure (wpAny_pure ?_)
      exact hQ (s.heap.update a (Obj.putSet es1 t1)) true (Heap.SameBut.update _ _ _) (fun ⟨p, hp, e⟩ => absurd e (hno p hp)) fun _ => ⟨_, _, es1, t1, g1, hex, rfl, hpn, T4⟩
structure KsOf (ks : List (Int × Tok)) (ns : List Int) : Prop where
  nd : (ks.map (·.1)).Nodup
  mem : ∀ k, k ∈ ks.map (·.1) ↔ k ∈ ns
  len : ks.length ≤ ns.length
theorem upd_loopG {I S : Addr} {fp wr : List Addr} {ns : List Int} {P : Nat → Value → Prop} {St : Nat → Heap → Prop} {R : Result → Shared → Prop} (W : Walks prog w A.in1 I fp wr ns.length P St)
    (hP : ∀ i v, P i v → ∃ k t, ns[i]? = some k ∧ v = .int k t) (hfp : ∀ c ∈ fp, c ≠ S) (hwr : S ∉ wr) (hlen : ns.length ≤ 12) :
    ∀ (j i : Nat) (s : Shared) (ks : List (Int × Tok)), i + j = ns.length → St i s.heap → SG L s.heap S ks → KsOf ks (ns.take i) →
      (∀ h' tk ks, SG L h' S ks → KsOf ks ns → (∀ b o, b ≠ S → b ∉ wr → s.heap.get? b = some o → h'.get? b = some o) → R (.ok (.ret .none)) { s with heap := h', toks := tk }) →
      codeAny (model prog w) A (.builtin "set.update.loop" ⟨[.ref S, .ref I], []⟩) R s := by
  intro j
  induction j with
  | zero =>
    intro i s ks hi st hS hk h
    have e : i = ns.length := by omega
    subst e
    rw [List.take_length] at hk
    exact upd_done W st fun h' tk k => h h' tk ks (hS.keep fun o e => k S o hwr e) hk fun b o _ hb e => k b o hb e
  | succ j ih =>
    intro i s ks hi st hS hk h
    refine upd_step W (i := i) (by omega) st fun v h2 tk2 hv st2 k2 => ?_
    obtain ⟨k, t, hn, rfl⟩ := hP i v hv
    have hl := hk.len
    rw [List.length_take] at hl
    have et : ns.take (i + 1) = ns.take i ++ [k] := by rw [List.take_succ, hn]; rfl
    refine add_SG (s := { s with heap := h2, toks := tk2 }) (hS.keep fun o e => k2 S o hwr e) (by omega) fun h3 b sb x1 x2 => ?_
    have st3 := W.frame _ _ _ st2 fun c hc o e => (sb.2 c (hfp c hc)).trans e
    by_cases hkm : ∃ p ∈ ks, p.1 = k
    · refine ih (i + 1) _ ks (by omega) st3 (x1 hkm) ⟨hk.nd, fun k' => ?_, by rw [et, List.length_append, List.length_take]; omega⟩ fun h' tk ks' y1 y2 kp => h h' tk ks' y1 y2 fun b o nb hb e => kp b o nb hb ((sb.2 b nb).trans (k2 b o hb e))
      rw [hk.mem, et, List.mem_append, List.mem_singleton]
      refine ⟨.inl, fun z => ?_⟩
      rcases z with z | z
      · exact z
      · obtain ⟨p, hp, e⟩ := hkm
        rw [z, ← e]
        exact (hk.mem _).mp (List.mem_map.mpr ⟨p, hp, rfl⟩)
    · have hno : ∀ p ∈ ks, p.1 ≠ k := fun p hp e => hkm ⟨p, hp, e⟩
      refine ih (i + 1) _ ((k, t) :: ks) (by omega) st3 (x2 hno) ⟨?_, fun k' => ?_, by rw [et, List.length_append, List.length_take, List.length_cons]; show _ ≤ _ + 1; omega⟩ fun h' tk ks' y1 y2 kp => h h' tk ks' y1 y2 fun b o nb hb e => kp b o nb hb ((sb.2 b nb).trans (k2 b o hb e))
      · rw [List.map_cons]
        refine List.nodup_cons.mpr ⟨fun m => ?_, hk.nd⟩
        obtain ⟨p, hp, e⟩ := List.mem_map.mp m
        exact hno p hp e
      · rw [List.map_cons, List.mem_cons, hk.mem, et, List.mem_append, List.mem_singleton]
        exact Or.comm
set_option maxHeartbeats 3200000 in
theorem call_set_tup {l : Addr} {its : Array Value} {ns : List Int} {Q : Value → Shared → Prop} (hh : A.handled = none) (hl : s.heap.IsTuple l its) (hi : IntsAre its.toList ns) (hlen : ns.length ≤ 12)
    (h : ∀ (h' : Heap) (tk : Nat) (ks : List (Int × Tok)), SG (Led w) h' s.heap.objs.size ks → KsOf ks ns → (∀ b o, b < s.heap.objs.size → s.heap.get? b = some o → h'.get? b = some o) → Q (.ref s.heap.objs.size) { s with heap := h', toks := tk }) :
    wpAny (model prog w) A (call (.type "set") [.ref l]) Q E s := by
  obtain ⟨c, tl, hmro⟩ := PySem.F.called_set.mro
  have hmade := PySem.F.called_set.made
  have hsub := PySem.F.called_set.sub
  refine wpAny_call (codeAny_of_tree ?_)
  show wpAny _ _ (callAny (.type "set") _) _ _ _
  refine wpAny_pure ⟨Code.quiet_builtin _ (by decide +kernel), codeAny_builtin PySem.F.entry_type_call ?_⟩
  rw [Around.under_plain (weight_type_call_type "set" [.ref l] []) rfl]
  have h1 := PySem.F.called_set.notType
  have h2 := PySem.F.called_set.canCreate
  have hct := PySem.F.typeCall_set_1 (.ref l)
  repeat (any_goals (first | assumption | wp_step))
  refine codeAny_mono (code_set_new_L (.ref l) (E := E) (Q₁ := fun obj s₁ => obj = .ref s.heap.objs.size ∧ s₁ = { s with heap := s.heap.push { cls := .type "set", dict := none, data := .set #[] 0 (.fresh 0 0 (Led w)) } }) ⟨rfl, rfl⟩) fun r s₁ hr => ?_
  cases r with
  | error e => exact hr
  | ok fl =>
    cases fl with
    | ret obj =>
      obtain ⟨rfl, rfl⟩ := hr
      generalize hled : Led w = led at h ⊢
      have hS : (s.heap.push { cls := .type "set", dict := none, data := .set #[] 0 (.fresh 0 0 led) }).get? s.heap.objs.size = some { cls := .type "set", dict := none, data := .set #[] 0 (.fresh 0 0 led) } := Heap.get?_push_size _ rfl
      have hT : Shared.TypeIs { s with heap := s.heap.push { cls := .type "set", dict := none, data := .set #[] 0 (.fresh 0 0 led) } } (.ref s.heap.objs.size) "set" := ⟨_, hS, rfl⟩
      have hli := PySem.F.called_set.init.lookup
      have hbi := PySem.F.called_set.init.bind (.ref s.heap.objs.size)
      repeat (any_goals (first | assumption | wp_step))
      refine codeAny_mono (codeAny_call_builtin (R := wants (fun r s₂ => r = .none ∧ ∃ h' tk ks, s₂ = { s with heap := h', toks := tk } ∧ SG led h' s.heap.objs.size ks ∧ KsOf ks ns ∧
          (∀ b o, b < s.heap.objs.size → s.heap.get? b = some o → h'.get? b = some o)) E) PySem.F.called_set.init.plain PySem.F.entry_set_init (check_set_init_1 hT ?_)) fun r₂ s₂ hr₂ => ?_
      · obtain ⟨ol, hol, hcl, nl, hdl⟩ := hl
        obtain ⟨ocls, odict, odata, oslots⟩ := ol
        simp only at hcl hdl
        subst hcl; subst hdl
        have hol' : (s.heap.push { cls := .type "set", dict := none, data := .set #[] 0 (.fresh 0 0 led) }).get? l = some { cls := .type "tuple", dict := odict, data := .seq its nl, slots := oslots } := Heap.get?_push_of_some _ hol
        have hsls := PySem.F.sub_tuple_set
        have hslf := PySem.F.sub_tuple_frozenset
        have hne : (Value.type "tuple" == Value.type "dict") = false := by decide
        have hl1 : (s.heap.push { cls := .type "set", dict := none, data := .set #[] 0 (.fresh 0 0 led) }).IsTuple l its := ⟨_, hol', rfl, nl, rfl⟩
        unfold Builtin.«set.__init__» noKeywords Builtin.Frozenset.updateFrom
        generalize hPI : pyIter = PI
        wp_walk
        subst hPI
        refine wpAny_pyIter_tuple hl1 ?_
        refine wpAny_bind (wpAny_runValue ?_)
        have hlS : l < s.heap.objs.size := Heap.lt_size hol
        have hh3 : A.in1.in1.in1.handled = none := by simp [hh]
        generalize hH1 : s.heap.push { cls := .type "set", dict := none, data := .set #[] 0 (.fresh 0 0 led) } = H1 at *
        have szH1 : H1.objs.size = s.heap.objs.size + 1 := by rw [← hH1, Heap.size_push]
        have hneI : l ≠ H1.objs.size := by rw [szH1]; exact Nat.ne_of_lt (Nat.lt_succ_of_lt hlS)
        have W := Walks.tuple (prog := prog) (w := w) hh3 H1.objs.size l hneI its
        have hsz : its.size = ns.length := by rw [← hi.length, Array.length_toList]
        rw [hsz] at W
        generalize hS0 : s.heap.objs.size = S at *
        have SI : S ≠ H1.objs.size := by omega
        have lS : l ≠ S := Nat.ne_of_lt hlS
        refine upd_loopG (L := led) W (fun i v hv => ?_) (fun c hc => ?_) (by simpa using SI) hlen ns.length 0 _ [] (by omega) ⟨⟨_, Heap.get?_push_size _ rfl, rfl, rfl⟩, hl1.push _⟩ ?_ ⟨List.nodup_nil, fun k => by simp, Nat.le_refl _⟩ fun h6 tk6 ks6 x6 y6 k6 => ?_
        · have hv' : its[i]? = some v := hv
          have hil : i < its.toList.length := by
            rw [Array.length_toList]
            exact (Array.getElem?_eq_some_iff.mp hv').1
          have e1 : its.toList[i]? = some v := by rw [Array.getElem?_toList]; exact hv'
          obtain ⟨k, t, e2, e3⟩ := IntsAre.at hi i v e1
          exact ⟨k, t, e3, e2⟩
        · rcases List.mem_cons.mp hc with z | z
          · rw [z]; exact Ne.symm SI
          · have z' : c = l := by simpa using z
            rw [z']; exact lS
        · exact ⟨_, 0, #[], _, Heap.get?_push_of_some _ hS, ⟨rfl, rfl, rfl⟩, rfl, List.Perm.refl _, ⟨.inl ⟨rfl, Nat.zero_le _⟩, rfl, rfl, rfl, rfl, List.Pairwise.nil⟩⟩
        · show wpAny _ _ _ _ _ _
          refine wpAny_pure ?_
          show wpAny _ _ (ret Value.none) _ _ _
          refine wpAny_pure ⟨rfl, h6, tk6, ks6, rfl, x6, y6, fun c o hc e => ?_⟩
          have c1 : c ≠ S := Nat.ne_of_lt hc
          have c2 : c ∉ [H1.objs.size] := by
            intro z
            have z' : c = H1.objs.size := by simpa using z
            omega
          exact k6 c o c1 c2 (Heap.get?_push_of_some _ (hH1 ▸ Heap.get?_push_of_some _ e))
      · cases r₂ with
        | error e => exact hr₂
        | ok fl₂ =>
          cases fl₂ with
          | ret r =>
            obtain ⟨rfl, h', tk, ks, rfl, hS', hK', hk'⟩ := hr₂
            repeat (any_goals (first | assumption | wp_step))
            exact h _ _ _ hS' hK' hk'
          | _ => exact hr₂.elim
    | _ => exact hr.elim
end
end L2
set_option Elab.async false
set_option linter.all false
set_option maxRecDepth 100000
namespace L2
open PySem PySem.Spec PyProof.Rows
def ordG (w : World) (S : Addr) (ep : Nat) (es : Array (Int × Value)) : Array (Int × Value) := if w.params.followText "set-order" then pickOrder (w.params.setOrder S ep) es else es
def slotH (w : World) (t : SetTable) (i : Nat) : Nat := if w.params.followText "set-order" then 0 else slotG t.place i
theorem ordG_perm (w : World) (S : Addr) (ep : Nat) (es : Array (Int × Value)) : (ordG w S ep es).toList.Perm es.toList := by
  unfold ordG
  split
  · exact pick_perm _ _
  · exact List.Perm.refl _
theorem ordG_size (w : World) (S : Addr) (ep : Nat) (es : Array (Int × Value)) : (ordG w S ep es).size = es.size := by
  rw [← Array.length_toList, (ordG_perm w S ep es).length_eq, Array.length_toList]
section
variable {prog : Program} {w : World} {A : Around} {E : Value → Shared → Prop} {s : Shared} {S : Addr} {o : Obj} {ep : Nat} {es : Array (Int × Value)} {t : SetTable}
theorem wp_setNextG {i : Nat} {Q : Option (Value × Nat) → Shared → Prop} (T : Tb (Led w) t es.size 4) (ho : s.heap.get? S = some o) (hd : o.data = .set es ep t) (hi : i ≤ es.size)
    (h : Q (((ordG w S ep es)[i]?).map fun e => (e.2, slotH w t (i + 1))) s) : wpAny (model prog w) A (setNext S (slotH w t i) i ep) Q E s := by
  have hfit := T.fits (by decide)
  unfold setNext
  refine wpAny_bind (wpAny_setState_of ho hd hfit ?_)
  dsimp only
  refine wpAny_bind (wp_byText ?_)
  cases hb : w.params.followText "set-order" with
  | true =>
    have e1 : ordG w S ep es = pickOrder (w.params.setOrder S ep) es := by unfold ordG; rw [hb]; rfl
    have e2 : ∀ i, slotH w t i = 0 := fun i => by unfold slotH; rw [hb]; rfl
    rw [e1, e2] at h
    rw [e2]
    simp only [if_true, bne_self_eq_false, Bool.false_eq_true, if_false]
    refine wpAny_bind ?_
    unfold setWalk
    refine wpAny_bind (wpAny_setState_of ho hd hfit ?_)
    dsimp only
    refine wpAny_bind (wp_byText ?_)
    rw [hb]
    simp only [if_true]
    refine wpAny_bind (wpAny_askSetting (wpAny_pure (wpAny_pure h)))
  | false =>
    have e1 : ordG w S ep es = es := by unfold ordG; rw [hb]; rfl
    have e2 : ∀ i, slotH w t i = slotG t.place i := fun i => by unfold slotH; rw [hb]; rfl
    have eL : t.led = true := by rw [T.led]; unfold Led; rw [hb]; rfl
    rw [e1, e2] at h
    rw [e2]
    simp only [Bool.false_eq_true, if_false]
    have hbl := below_slot T.rise (i := i) (by rw [T.size]; exact hi)
    refine wpAny_ite_split (fun hab => absurd (show (!t.plain && decide (es.size > 1)) = true from hab) (by rw [T.plain]; simp)) (fun _ => ?_)
    refine wpAny_bind ?_
    show wpAny _ _ (if (!t.led && !es.isEmpty) = true then unsupported "set:maker-not-led" else pure ()) _ _ _
    rw [eL]
    refine wpAny_pure (wpAny_pure ?_)
    rw [hbl]
    cases q : es[i]? with
    | none => rw [q] at h; exact h
    | some p =>
      rw [q] at h
      have hlt : i < t.place.size := by rw [T.size]; exact (Array.getElem?_eq_some_iff.mp q).1
      rw [Array.getElem?_eq_getElem hlt]
      have e5 : slotG t.place (i + 1) = t.place[i] + 1 := by
        unfold slotG
        rw [if_neg (by omega), Nat.add_sub_cancel, Array.getElem?_eq_getElem hlt]
        rfl
      rw [e5] at h
      exact h
def IsSetItG (w : World) (h : Heap) (I S : Addr) (t : SetTable) (n ep i : Nat) : Prop :=
  h.get? I = some { cls := .type "set_iterator", data := .fields #[rawInt (slotH w t i : Nat), rawInt (i : Nat), .ref S, rawInt (n : Nat), rawInt (ep : Nat)] }
theorem setWalksG (hh : A.handled = none) (I S : Addr) (hne : S ≠ I) (o : Obj) (ep : Nat) (es : Array (Int × Value)) (t : SetTable) (T : Tb (Led w) t es.size 4) (hd : o.data = .set es ep t) :
    Walks prog w A I [I, S] [I] es.size (fun i v => ∃ k, (ordG w S ep es)[i]? = some (k, v)) (fun i h => IsSetItG w h I S t es.size ep i ∧ h.get? S = some o) where
  sub := fun b hb => by simp at hb; simp [hb]
  frame := fun _ _ _ st hk => ⟨hk I (by simp) _ st.1, hk S (by simp) _ st.2⟩
  item := fun i s Q E hi st hQ => by
    obtain ⟨hit, hS⟩ := st
    have hT : s.TypeIs (.ref I) "set_iterator" := ⟨_, hit, rfl⟩
    unfold pyNext
    refine wpAny_bind (wpAny_attempt (wpAny_callSpecial?_slot (name := Str.ofString "__next__") hT slot_set_iterator_next
      (wpAny_call_entry slot_set_iterator_next hT entry_set_iterator_next ?_ (args_set_iterator_next_1 _))))
    unfold Builtin.«set_iterator.__next__» slotArgs
    simp only [List.isEmpty_nil, Bool.not_true, Bool.false_eq_true, ↓reduceIte, List.length_nil, bne_self_eq_false]
    refine wpAny_bind (wpAny_pure ?_)
    dsimp only
    refine wpAny_bind (wpAny_fieldsOf hit rfl ?_)
    show wpAny _ _ (setEntries S >>= _) _ _ s
    refine wpAny_bind (wpAny_bind (wpAny_setState_of hS hd (T.fits (by decide)) (wpAny_pure ?_)))
    dsimp only
    refine wpAny_ite_split (fun hab => absurd hab (by simp)) (fun _ => ?_)
    show wpAny _ _ (setNext S (slotH w t i : Int).toNat (i : Int).toNat (ep : Int).toNat >>= _) _ _ s
    rw [Int.toNat_natCast, Int.toNat_natCast, Int.toNat_natCast]
    refine wpAny_bind (wp_setNextG T hS hd (by omega) ?_)
    obtain ⟨⟨k, v⟩, hkv⟩ : ∃ e, (ordG w S ep es)[i]? = some e := ⟨_, Array.getElem?_eq_getElem (by rw [ordG_size]; exact hi)⟩
    rw [hkv]
    show wpAny _ _ (setField (Value.ref I) 0 (rawInt ↑(slotH w t (i + 1))) >>= _) _ _ s
    refine wpAny_bind (wpAny_setField_rec hit (by show 0 < 5; decide) fun h1 g1 sb1 => ?_)
    refine wpAny_bind (wpAny_setField_rec g1 (by show 1 < 5; decide) fun h2 g2 sb2 => ?_)
    refine wpAny_pure ⟨v, rfl, wpAny_pure ?_⟩
    refine hQ v h2 s.toks ⟨k, hkv⟩ ⟨?_, (sb2.2 S hne).trans ((sb1.2 S hne).trans hS)⟩ fun b ob hb e => ?_
    · unfold IsSetItG
      rw [g2]
      congr 1
    · have hb' : b ≠ I := by simpa using hb
      exact (sb2.2 b hb').trans ((sb1.2 b hb').trans e)
  done := fun s Q E st hQ => by
    obtain ⟨hit, hS⟩ := st
    have hT : s.TypeIs (.ref I) "set_iterator" := ⟨_, hit, rfl⟩
    unfold pyNext
    refine wpAny_bind (wpAny_attempt (wpAny_callSpecial?_slot (name := Str.ofString "__next__") hT slot_set_iterator_next
      (wpAny_call_entry slot_set_iterator_next hT entry_set_iterator_next ?_ (args_set_iterator_next_1 _))))
    unfold Builtin.«set_iterator.__next__» slotArgs
    simp only [List.isEmpty_nil, Bool.not_true, Bool.false_eq_true, ↓reduceIte, List.length_nil, bne_self_eq_false]
    refine wpAny_bind (wpAny_pure ?_)
    dsimp only
    refine wpAny_bind (wpAny_fieldsOf hit rfl ?_)
    show wpAny _ _ (setEntries S >>= _) _ _ s
    refine wpAny_bind (wpAny_bind (wpAny_setState_of hS hd (T.fits (by decide)) (wpAny_pure ?_)))
    dsimp only
    refine wpAny_ite_split (fun hab => absurd hab (by simp)) (fun _ => ?_)
    show wpAny _ _ (setNext S (slotH w t es.size : Int).toNat (es.size : Int).toNat (ep : Int).toNat >>= _) _ _ s
    rw [Int.toNat_natCast, Int.toNat_natCast, Int.toNat_natCast]
    refine wpAny_bind (wp_setNextG T hS hd (Nat.le_refl _) ?_)
    have hkv : (ordG w S ep es)[es.size]? = none := by rw [Array.getElem?_eq_none]; rw [ordG_size]; exact Nat.le_refl _
    rw [hkv]
    show wpAny _ _ (setField (Value.ref I) 2 Value.none >>= _) _ _ s
    refine wpAny_bind (wpAny_setField_rec hit (by show 2 < 5; decide) fun h1 g1 sb1 => ?_)
    show wpAny _ _ (newExc (.type "StopIteration") [] >>= _) _ _ _
    refine wpAny_bind ?_
    simp only [newExc, newTuple]
    refine wpAny_bind (wpAny_newObj_type ?_ (by size_fits))
    refine wpAny_bind (m := firstArgMember _ _) (wpAny_of_eq (a := Value.none) (by first | rfl | (simp only [firstArgMember]; rfl)) ?_)
    refine wpAny_newObj_type ?_ (by size_fits)
    simp only [raiseNew]
    refine wpAny_bind (wpAny_handled ?_)
    first | rw [show A.in1.handled = none from hh] | rw [hh]
    refine wpAny_bind (wpAny_pure (wpAny_throw ?_))
    refine wpAny_bind (wpAny_isInstance (T := "StopIteration") (b := true) ⟨_, Heap.get?_push_size _ rfl, rfl⟩ isSubtype_stop ?_)
    refine wpAny_pure (hQ _ s.toks fun b ob hb e => ?_)
    have hb' : b ≠ I := by simpa using hb
    exact Heap.get?_push_of_some _ (Heap.get?_push_of_some _ ((sb1.2 b hb').trans e))
  self := fun i s Q E st h => by
    obtain ⟨hit, hS⟩ := st
    have hT : s.TypeIs (.ref I) "set_iterator" := ⟨_, hit, rfl⟩
    refine wpAny_pyIter_slot hT slot_set_iterator_iter (wpAny_call_entry slot_set_iterator_iter hT entry_set_iterator_iter ?_ (args_set_iterator_iter_1 _))
    show wpAny _ _ (ret (.ref I)) _ _ s
    exact wpAny_pure ⟨_, rfl, "set_iterator", _, hT, slot_set_iterator_next.lookup, h⟩
theorem pyIter_setG {Q : Value → Shared → Prop} (T : Tb (Led w) t es.size 4) (ho : s.heap.get? S = some o) (hex : o.ExactSet) (hd : o.data = .set es ep t)
    (h : Q (.ref s.heap.objs.size) { s with heap := s.heap.push { cls := .type "set_iterator", data := .fields #[rawInt (slotH w t 0 : Nat), rawInt ((0 : Nat) : Int), .ref S, rawInt (es.size : Nat), rawInt (ep : Nat)] } }) : wpAny (model prog w) A (pyIter (.ref S)) Q E s := by
  have hT : s.TypeIs (.ref S) "set" := ⟨o, ho, hex.1⟩
  refine wpAny_pyIter_slot hT PySem.F.slot_set_iter (wpAny_call_entry PySem.F.slot_set_iter hT entry_set_iter ?_ (PySem.F.args_set_iter_1 _))
  unfold Builtin.«frozenset.__iter__» Builtin.Frozenset.slot0 slotArgs
  simp only [List.isEmpty_nil, Bool.not_true, Bool.false_eq_true, ↓reduceIte, bind_assoc, List.length_nil, bne_self_eq_false]
  refine wpAny_bind (wpAny_pure ?_)
  dsimp only
  refine wpAny_bind (m := Builtin.Frozenset.addrOf (.ref S)) (wpAny_pure ?_)
  unfold Builtin.Frozenset.sizeOf setEntries
  refine wpAny_bind (wpAny_bind (wpAny_bind (wpAny_setState_of ho hd (T.fits (by decide)) (wpAny_pure (wpAny_pure ?_)))))
  dsimp only
  unfold setDrawn
  refine wpAny_bind (wpAny_bind (wpAny_setState_of ho hd (T.fits (by decide)) (wpAny_bind (wp_byText (wpAny_pure ?_)))))
  have hb : ∀ b : Bool, (!b && false) = false := by decide
  refine wpAny_ite_split (fun hab => absurd (show (!(w.params.followText "set-order") && (!t.plain && decide (es.size > 1))) = true from hab) (by rw [T.plain]; rw [show (!true && decide (es.size > 1)) = false from rfl, hb]; decide)) (fun _ => ?_)
  refine wpAny_bind (wpAny_pure ?_)
  unfold setEpoch
  refine wpAny_bind (wpAny_bind (wpAny_setState_of ho hd (T.fits (by decide)) (wpAny_pure ?_)))
  dsimp only
  have e0 : slotH w t 0 = 0 := by unfold slotH slotG; split <;> rfl
  refine wpAny_bind (wpAny_newObj_type (wpAny_pure ⟨_, rfl, "set_iterator", _, ⟨_, Heap.get?_push_size _ rfl, rfl⟩, slot_set_iterator_next.lookup, ?_⟩))
  rw [e0] at h
  exact h
theorem hint_setG {Q : Bool → Shared → Prop} (T : Tb (Led w) t es.size 4) (ho : s.heap.get? S = some o) (hex : o.ExactSet) (hd : o.data = .set es ep t)
    (h : ∀ b, Q b s) : wpAny (model prog w) A (Builtin.List.listLengthHint (.ref S)) Q E s := by
  have hT : s.TypeIs (.ref S) "set" := ⟨o, ho, hex.1⟩
  unfold Builtin.List.listLengthHint
  refine wpAny_bind (wpAny_specialOf hT PySem.F.slot_set_len.lookup ?_)
  generalize hid : ("set.__len__" : String) = id0
  wp_delta
  rw [show splitId id0 = some ("set", "__len__") from by subst hid; decide +kernel]
  subst hid
  refine wpAny_bind (wpAny_isInstance (T := "set") (b := true) hT (by rw [isSubtype_type]; kernel_rfl) ?_)
  refine wpAny_ite_split (fun hab => absurd hab (by decide)) (fun _ => ?_)
  refine wpAny_ite_split (fun _ => ?_) (fun hab => absurd (by decide +kernel) hab)
  refine wpAny_bind (wpAny_typeOf hT ?_)
  exact wpAny_pure (h false)
theorem collect_setG {Q : List Value → Shared → Prop} (hh : A.handled = none) (T : Tb (Led w) t es.size 4) (ho : s.heap.get? S = some o) (hex : o.ExactSet) (hd : o.data = .set es ep t)
    (h : ∀ h' tk vs, (∀ b o, s.heap.get? b = some o → h'.get? b = some o) → vs = (ordG w S ep es).toList.map (·.2) → Q vs { s with heap := h', toks := tk }) : wpAny (model prog w) A (collect (.ref S)) Q E s := by
  refine collect_by fun R hR => ?_
  generalize hD : s.heap.objs.size = D at *
  have hSD : @LT.lt Nat instLTNat S D := by rw [← hD]; exact Heap.lt_size ho
  generalize hH0 : s.heap.push { cls := .type "list", data := .seq ([] : List Value).toArray } = H0
  have szH0 : H0.objs.size = D + 1 := by rw [← hH0, Heap.size_push, hD]
  have ho' : H0.get? S = some o := by rw [← hH0]; exact Heap.get?_push_of_some _ ho
  have hDl : H0.get? D = some { cls := .type "list", data := .seq #[] 0 } := by rw [← hH0, ← hD]; exact Heap.get?_push_size _ rfl
  have old0 : ∀ b ob, s.heap.get? b = some ob → H0.get? b = some ob := fun b ob e => by rw [← hH0]; exact Heap.get?_push_of_some _ e
  unfold Builtin.List.listExtendWith
  refine wpAny_bind (wpAny_typeOf (T := "set") ⟨o, ho', hex.1⟩ ?_)
  have h1 : Builtin.List.listSameRef (.ref D) (.ref S) = false := by simp [Builtin.List.listSameRef]; exact Nat.ne_of_gt hSD
  have h2 : (Value.type "set" == Value.type "list") = false := by decide
  have h3 : (Value.type "set" == Value.type "tuple") = false := by decide
  simp only [h1, h2, h3, Bool.or_false, Bool.false_eq_true, if_false]
  refine wpAny_bind (pyIter_setG (s := { s with heap := H0 }) T ho' hex hd ?_)
  generalize hI : H0.objs.size = I at *
  have W := (setWalksG (prog := prog) (w := w) (A := A.in1) hh I S (Nat.ne_of_lt (by omega)) o ep es t T hd).toS
  have key : ∀ (hp : Heap) (c tk : Nat), IsSetItG w hp I S t es.size ep 0 → hp.get? S = some o → (∀ b ob, b ≠ D → H0.get? b = some ob → hp.get? b = some ob) → hp.get? D = some { cls := .type "list", data := .seq #[] c } →
      codeAny (model prog w) A (.builtin "list.extend.loop" ⟨[.ref D, .ref I, .ref D], []⟩) R { s with heap := hp, toks := tk } := by
    intro hp c tk hit hS hk hDl'
    refine codeAny_extend_loopS W (by rw [sizeLine_eq]; rcases T.mask with ⟨_, b⟩ | ⟨_, b⟩ <;> omega) D (by
      simp only [List.mem_cons, List.mem_singleton, List.not_mem_nil, or_false, not_or]
      exact ⟨Nat.ne_of_lt (by omega), Nat.ne_of_gt hSD⟩) (.ref D) es.size 0 _ #[] c rfl (Nat.zero_le _) ⟨hit, hS⟩ hDl' (ItemsOf.nil _) fun s' acc' c' hm hS' hacc => ?_
    rw [Moved.eq_with hm]
    refine hR { s with heap := s'.heap, toks := s'.toks } acc' c' hS' (h s'.heap s'.toks acc'.toList (fun b ob e => hm.heap b ob (fun hmem => ?_) (hk b ob ?_ (old0 b ob e))) ?_)
    · have hb : @LT.lt Nat instLTNat b D := by rw [← hD]; exact Heap.lt_size e
      rcases List.mem_cons.mp hmem with z | z
      · exact absurd z (Nat.ne_of_lt hb)
      · have z' : b = I := by simpa using z
        exact absurd z' (Nat.ne_of_lt (by omega))
    · have hb : @LT.lt Nat instLTNat b D := by rw [← hD]; exact Heap.lt_size e
      exact Nat.ne_of_lt hb
    · obtain ⟨hs, hi⟩ := hacc
      apply List.ext_getElem?
      intro j
      rw [List.getElem?_map, Array.getElem?_toList, Array.getElem?_toList]
      cases e : acc'[j]? with
      | none =>
        have hj : es.size ≤ j := by
          rw [← hs]
          exact Array.getElem?_eq_none_iff.mp e
        rw [Array.getElem?_eq_none (by rw [ordG_size]; exact hj)]
        rfl
      | some v =>
        obtain ⟨k, hk⟩ := hi j v e
        rw [hk]
        rfl
  have hit0 : IsSetItG w (H0.push { cls := .type "set_iterator", data := .fields #[rawInt (slotH w t 0 : Nat), rawInt ((0 : Nat) : Int), .ref S, rawInt (es.size : Nat), rawInt (ep : Nat)] }) I S t es.size ep 0 := by
    rw [← hI]; exact Heap.get?_push_size _ rfl
  have hD1 := Heap.get?_push_of_some { cls := .type "set_iterator", data := .fields #[rawInt (slotH w t 0 : Nat), rawInt ((0 : Nat) : Int), .ref S, rawInt (es.size : Nat), rawInt (ep : Nat)] } hDl
  refine wpAny_bind (wpAny_holding (hint_setG (s := { s with heap := H0.push { cls := .type "set_iterator", data := .fields #[rawInt (slotH w t 0 : Nat), rawInt ((0 : Nat) : Int), .ref S, rawInt (es.size : Nat), rawInt (ep : Nat)] } }) T (Heap.get?_push_of_some _ ho') hex hd fun bb => ?_))
  have DI : D ≠ I := Nat.ne_of_lt (by omega)
  refine wpAny_ite_split (fun _ => ?_) (fun _ => wpAny_pure ⟨plainId_quiet PySem.F.plain_extend_loop _, key _ 0 _ hit0 (Heap.get?_push_of_some _ ho') (fun b ob _ e => Heap.get?_push_of_some _ e) hD1⟩)
  refine wpAny_bind (wpAny_rule ?_)
  refine wpAny_bind ?_
  show wpAny _ _ (updateSeq D (·.push .none) >>= fun _ => updateSeq D (·.pop)) _ _ _
  refine wpAny_bind (wpAny_updateSeq hD1 rfl ?_)
  have hS₂ := Heap.get?_update_self (Obj.mapSeq (·.push Value.none)) hD1 rfl
  refine wpAny_updateSeq (hz := by seq_fits) hS₂ rfl ?_
  have hS₃ := Heap.get?_update_self (Obj.mapSeq (·.pop)) hS₂ rfl
  refine wpAny_pure ⟨plainId_quiet PySem.F.plain_extend_loop _, key _ _ _ ?_ ?_ (fun b ob hb e => ?_) hS₃⟩
  · exact (Heap.get?_update_other _ _ DI).trans ((Heap.get?_update_other _ _ DI).trans hit0)
  · exact (Heap.get?_update_other _ _ (Nat.ne_of_gt hSD)).trans ((Heap.get?_update_other _ _ (Nat.ne_of_gt hSD)).trans (Heap.get?_push_of_some _ ho'))
  · exact (Heap.get?_update_other _ _ (Ne.symm hb)).trans ((Heap.get?_update_other _ _ (Ne.symm hb)).trans (Heap.get?_push_of_some _ e))
end
def IsSorted (out ns : List Int) : Prop := out.Pairwise (· < ·) ∧ ∀ k, k ∈ out ↔ k ∈ ns
def SetI (w : World) (p : Addr) (ns : List Int) : HO := .ext fun h => ∃ ks, SG (Led w) h p ks ∧ KsOf ks ns
theorem ints_ents : ∀ {l : List (Int × Value)} {ks : List (Int × Tok)}, l = ks.map ent → IntsAre (l.map (·.2)) (ks.map (·.1))
  | _, [], rfl => .nil
  | _, p :: ks, rfl => .cons _ p.2 (ints_ents rfl)
theorem perm_ents : ∀ {l l' : List (Int × Value)}, l.Perm l' → (∀ e ∈ l', ∃ p, e = ent p) → ∃ ks : List (Int × Tok), l = ks.map ent := fun {l l'} h q => by
  have q' : ∀ e ∈ l, ∃ p, e = ent p := fun e he => q e (h.mem_iff.mp he)
  clear h q
  induction l with
  | nil => exact ⟨[], rfl⟩
  | cons e r ih =>
    obtain ⟨p, rfl⟩ := q' e (List.mem_cons_self ..)
    obtain ⟨ks, rfl⟩ := ih fun y hy => q' y (List.mem_cons_of_mem _ hy)
    exact ⟨p :: ks, rfl⟩
theorem ent_keys {ks ks' : List (Int × Tok)} (h : (ks.map ent).Perm (ks'.map ent)) : (ks.map (·.1)).Perm (ks'.map (·.1)) := by
  have e : ∀ l : List (Int × Tok), l.map (·.1) = (l.map ent).map fun e => match e.2 with | .int k _ => k | _ => 0 := fun l => by rw [List.map_map]; rfl
  rw [e, e]
  exact h.map _
section
variable {X : Cx}
theorem call_setT {K : PySem.W.Frag} (hK : X.K = K) (hc : X.calm = true) : CallR X (.type "set") (fun xs H Q => ∃ (l : Addr) (ns : List Int), xs = [.ref l] ∧ SqT K H l (ns.map V.int) ∧ ns.length ≤ 12 ∧ ∀ p, H p = none → Q (.ref p) (upd H p (SetI X.w p ns))) := by
  subst hK
  intro pins s σ H xs us Q I r h
  obtain ⟨l, ns, rfl, hL, hn, q⟩ := h
  obtain ⟨u, rfl, rx⟩ := vals1 r
  cases rx
  obtain ⟨its, rv, pl, hz⟩ := I.tuple hL
  refine call_set_tup (I.ok.hd hc) pl (ints_vals rv) hn fun h' tk ks x y kp => ?_
  have kp' : ∀ b o, s.heap.get? b = some o → h'.get? b = some o := fun b o e => kp b o (Heap.lt_size e) e
  have hf := I.hok.fresh (Nat.le_refl s.heap.objs.size)
  refine ⟨.ref s.heap.objs.size, _, I.laid (t' := tk) kp' (Nat.le_refl _) ?_, rfl, q _ hf⟩
  refine ⟨⟨ks, x, y⟩, ?_, fun h1 h2 ⟨ks, z, y⟩ k => ⟨ks, z.keep k, y⟩⟩
  obtain ⟨o, ep, es, t, e, _⟩ := x
  exact ⟨o, e⟩
theorem call_sortedI (hc : X.calm = true) : CallR X (.builtin "sorted") (fun xs H Q => ∃ (p : Addr) (ns : List Int), xs = [.ref p] ∧ H p = some (SetI X.w p ns) ∧ ns.length ≤ 12 ∧ ∀ q out, IsSorted out ns → H q = none → Q (.ref q) (upd H q (.lst (out.map V.int)))) := by
  intro pins s σ H xs us Q I r h
  obtain ⟨p, ns, rfl, hp, hn, q⟩ := h
  obtain ⟨u, rfl, rx⟩ := vals1 r
  cases rx
  obtain ⟨⟨ks, ⟨o, ep, es, t, ho, hex, hd, hpm, T⟩, hk⟩, _, _⟩ := I.hok p _ hp
  obtain ⟨ks', e'⟩ := perm_ents ((ordG_perm X.w p ep es).trans hpm) fun e he => by
    obtain ⟨y, _, rfl⟩ := List.mem_map.mp he
    exact ⟨y, rfl⟩
  have hkk : (ks'.map (·.1)).Perm (ks.map (·.1)) := ent_keys (by rw [← e']; exact (ordG_perm X.w p ep es).trans hpm)
  have hl12 := hk.len
  have hlen : (ks'.map (·.1)).length ≤ 12 := by rw [hkk.length_eq, List.length_map]; omega
  refine sorted_of (ns := ks'.map (·.1)) (by omega) (fun Q' hQ' => ?_) fun h1 h' tk out ns' k1 k2 pl hi' hp' ho' => ?_
  · exact collect_setG (A := X.A.in1) (I.ok.hd hc) T ho hex hd fun h' tk vs kp e => hQ' h' tk vs kp (by rw [e]; exact ints_ents e')
  · have I1 : Inv X pins σ H { s with heap := h1, toks := tk } := I.kept k1
    have hf := I1.hok.fresh (Nat.le_refl _)
    have hpp := hp'.trans hkk
    have hs : IsSorted ns' ns := by
      refine ⟨?_, fun k => hpp.mem_iff.trans (hk.mem k)⟩
      have nd : ns'.Nodup := hpp.nodup_iff.mpr hk.nd
      exact (List.Pairwise.and ho' nd).imp fun ⟨a, b⟩ => by omega
    have hl2 : ns'.length ≤ 12 := by rw [hp'.length_eq]; exact hlen
    obtain ⟨n, e⟩ := pl
    have I2 : Inv X pins σ (upd H h1.objs.size (.lst (ns'.map V.int))) { s with heap := h', toks := tk } :=
      I1.laid (t' := tk) k2 (Nat.le_refl _) (show ObjOk X.prog X.w _ _ _ (.lst _) from ⟨by rw [List.length_map, sizeLine_eq]; omega, out.toList, n, vals_ints hi', by simpa using e⟩)
    exact ⟨.ref h1.objs.size, _, I2, rfl, q _ _ hs hf⟩
end
end L2
set_option Elab.async false
set_option linter.all false
set_option maxRecDepth 100000
namespace L2
open PySem PySem.Spec PyProof.Rows
open PySem.AutoSeq1 (wpAny_loadPart')
theorem tuple_mul_one (l : Addr) (items : Array Value) (n : Nat) (dd : Option Addr) (sl : Array (Option Value)) (u : Tok) :
    Meets (Builtin.«tuple.__mul__» ⟨[.ref l, .int 1 u], []⟩) (fun _ R s => s.heap.get? l = some { cls := .type "tuple", dict := dd, data := .seq items n, slots := sl } ∧ R (.ok (.ret (Value.ref l))) s) :=
  .of_wp fun prog w A R s h => by
    obtain ⟨hp, g, d, tk, os⟩ := s
    obtain ⟨hl, h⟩ := h
    have f1 := AutoSeq1.idx_int
    have f2 := AutoSeq1.sub_tuple_tuple
    wp_walk using wpAny_loadPart' hl
    exact ⟨_, rfl, h⟩
theorem tuple_mul_zero (l : Addr) (items : Array Value) (n : Nat) (dd : Option Addr) (sl : Array (Option Value)) (u : Tok) (hne : items.isEmpty = false) :
    Meets (Builtin.«tuple.__mul__» ⟨[.ref l, .int 0 u], []⟩) (fun _ R s => s.heap.get? l = some { cls := .type "tuple", dict := dd, data := .seq items n, slots := sl } ∧ R (.ok (.ret (Value.ref s.heap.objs.size))) { s with heap := s.heap.push { cls := Value.type "tuple", data := Data.seq #[] } }) :=
  .of_wp fun prog w A R s h => by
    obtain ⟨hp, g, d, tk, os⟩ := s
    obtain ⟨hl, h⟩ := h
    have f1 := AutoSeq1.idx_int
    have f2 := AutoSeq1.sub_tuple_tuple
    wp_walk using wpAny_loadPart' hl
    exact ⟨_, rfl, h⟩
theorem tuple_mul_none0 (l : Addr) (items : Array Value) (n : Nat) (dd : Option Addr) (sl : Array (Option Value)) (u : Tok) (hne : items.isEmpty = true) :
    Meets (Builtin.«tuple.__mul__» ⟨[.ref l, .int 0 u], []⟩) (fun _ R s => s.heap.get? l = some { cls := .type "tuple", dict := dd, data := .seq items n, slots := sl } ∧ R (.ok (.ret (Value.ref l))) s) :=
  .of_wp fun prog w A R s h => by
    obtain ⟨hp, g, d, tk, os⟩ := s
    obtain ⟨hl, h⟩ := h
    have f1 := AutoSeq1.idx_int
    have f2 := AutoSeq1.sub_tuple_tuple
    wp_walk using wpAny_loadPart' hl
    exact ⟨_, rfl, h⟩
def rRepN (K : PySem.W.Frag) : R2 := fun x y H Q => ∃ a, ∃ k : Nat, ∃ xs, x = .ref a ∧ y = .int k ∧ SqT K H a xs ∧ k ≤ 1000 ∧ xs.length ≤ 1000 ∧ ∀ p H', Same H H' → SqT K H' p (List.replicate k xs).flatten → Q (.ref p) H'
theorem op_repN {X : Cx} {K : PySem.W.Frag} (hK : X.K = K) : OpR X (binaryOp .Mult) (rRepN K) := by
  intro pins s σ H x y v u Q I rx ry h
  obtain ⟨a, k, xs, rfl, rfl, ha, h2, hz, q⟩ := h
  by_cases h1 : 1 < k
  · exact op_repT hK pins s σ H _ _ v u Q I rx ry ⟨a, k, xs, rfl, rfl, ha, by omega, by omega, hz, q⟩
  subst hK
  cases rx
  obtain ⟨t, rfl⟩ := ry
  obtain ⟨its, r, ⟨⟨cls, dd, data, sl⟩, ho, hc, n, hd⟩, hzz⟩ := I.tuple ha
  simp only at hc hd
  subst hc hd
  refine wpAny_binaryOp_repeat_ref (T := "tuple") (U := "int") (by decide) ⟨_, ho, rfl⟩ (fun s' => typeIs_int s' k t) noFill_tuple_mul PySem.F.fills_int_mul PySem.F.slot_int_rmul repeat_tuple PySem.F.slot_int_index.lookup
    (call_meets PySem.F.slot_int_rmul (typeIs_int s k t) PySem.F.entry_int_rmul (PySem.F.args_int_rmul_2 _ _) (int_rmul_tuple k t a its.toArray n dd sl) ⟨ho, rfl, ⟨_, ho, rfl⟩, ?_⟩)
  rcases (show k = 0 ∨ k = 1 by omega) with rfl | rfl
  · by_cases hx : its = []
    · subst hx
      cases r
      refine call_meets PySem.F.slot_tuple_mul ⟨_, ho, rfl⟩ PySem.F.entry_tuple_mul (PySem.F.args_tuple_mul_2 _ _) (tuple_mul_none0 a _ n dd sl t rfl) ⟨ho, ?_⟩
      exact ⟨.ref a, H, I, rfl, q a H (Same.refl H) ha⟩
    · have hne : its.toArray.isEmpty = false := by
        cases its with
        | nil => exact absurd rfl hx
        | cons _ _ => rfl
      refine call_meets PySem.F.slot_tuple_mul ⟨_, ho, rfl⟩ PySem.F.entry_tuple_mul (PySem.F.args_tuple_mul_2 _ _) (tuple_mul_zero a its.toArray n dd sl t hne) ⟨ho, ?_⟩
      refine ⟨.ref _, _, I.laid (t' := s.toks) (o := .tup []) (fun b ob q => Heap.get?_push_of_some _ q) (Nat.le_refl _) ?_, rfl, q _ _ (Same.new (I.hok.fresh (Nat.le_refl _))) (SqT.of upd_same)⟩
      exact ⟨Nat.zero_le _, [], 0, .nil, Heap.get?_push_size _ rfl⟩
  · refine call_meets PySem.F.slot_tuple_mul ⟨_, ho, rfl⟩ PySem.F.entry_tuple_mul (PySem.F.args_tuple_mul_2 _ _) (tuple_mul_one a its.toArray n dd sl t) ⟨ho, ?_⟩
    exact ⟨.ref a, H, I, rfl, q a H (Same.refl H) (by simpa using ha)⟩
end L2
set_option Elab.async false
set_option linter.all false
set_option maxRecDepth 100000
namespace L2
open PySem PySem.Spec PyProof.Rows
structure Fn (K : PySem.W.Frag) (mg : Str → Option Value) (x : Str) (st : Stmt) (ps : List Str) (f : Addr) (fd : FuncData) : Prop where
  fn : Fun K x x st f fd
  mgx : mg x = some (.ref f)
  kp : PySem.W.keepIn K (.ref f) = true
  bd : Binds K fd ps []
theorem pe_fn {X : Cx} {x : Str} {st : Stmt} {ps : List Str} {f : Addr} {fd : FuncData} {k : Nat} {sp : Sp} {p pos : Pos} {e : Expr} {es : List Expr} {t : TA} (G : Fn X.K X.mg x st ps f fd) (ok : FnOk X.prog X.w X.K X.mg X.base CX0 k f fd ps sp) (hr : Room k X.A) (hg : Gl X x) (ha : PA X (e :: es) t)
    (hdb : (x == ("__debug__" : Str)) = false := by decide) (he : starEach (e :: es) X.env = (false, eval e X.env) :: starEach es X.env := by rfl) (hpl : (backTo pos (starEach es X.env)).any (·.1) = false := by rfl) :
    PE X (.Call (.Name x p) (e :: es) [] pos) (tCall sp [] E0 t) := pe_call ok hr hg G.mgx G.kp G.bd .nil pass0 ha hdb he hpl
structure Bl (mg : Str → Option Value) : Prop where
  isinstance : mg "isinstance" = none
  int : mg "int" = none
  bool : mg "bool" = none
  tuple : mg "tuple" = none
  list : mg "list" = none
  len : mg "len" = none
  all : mg "all" = none
  zip : mg "zip" = none
  range : mg "range" = none
  sorted : mg "sorted" = none
  set : mg "set" = none
  sum : mg "sum" = none
  repr : mg "repr" = none
  enumerate : mg "enumerate" = none
  min : mg "min" = none
  any : mg "any" = none
  hands : ∃ t, mg "MOST_HANDS" = some (.int 6 t)
  works : ∃ t, mg "MOST_WORKS" = some (.int 12 t)
  mr : ∃ t, mg "MOST_ROOM" = some (.int 12 t)
theorem b_isi : bootBuiltins "isinstance" = some (.builtin "isinstance") := by decide +kernel
theorem b_int : bootBuiltins "int" = some (.type "int") := by decide +kernel
theorem b_bool : bootBuiltins "bool" = some (.type "bool") := by decide +kernel
theorem b_tuple : bootBuiltins "tuple" = some (.type "tuple") := by decide +kernel
theorem b_list : bootBuiltins "list" = some (.type "list") := by decide +kernel
theorem b_len : bootBuiltins "len" = some (.builtin "len") := by decide +kernel
theorem b_all : bootBuiltins "all" = some (.builtin "all") := by decide +kernel
theorem b_range : bootBuiltins "range" = some (.type "range") := by decide +kernel
theorem b_sorted : bootBuiltins "sorted" = some (.builtin "sorted") := by decide +kernel
theorem b_set : bootBuiltins "set" = some (.type "set") := by decide +kernel
theorem b_sum : bootBuiltins "sum" = some (.builtin "sum") := by decide +kernel
theorem b_repr : bootBuiltins "repr" = some (.builtin "repr") := by decide +kernel
end L2

namespace Ab
open PySem L2
def top (i : Nat) : Stmt := PySem.Challenge.pw_ablehands_k17_rooms_and_bars_looked_at.main.body.getD i (.Pass ⟨0, 0, 0, 0⟩)
abbrev sWhole : Stmt := top 7
abbrev sHands : Stmt := top 8
abbrev sWorkP : Stmt := top 9
abbrev sBookP : Stmt := top 10
abbrev sNeedB : Stmt := top 11
abbrev sWithin : Stmt := top 13
abbrev sRooms : Stmt := top 16
abbrev sNeedR : Stmt := top 17
abbrev sInRooms : Stmt := top 18
abbrev sDoBar : Stmt := top 19
abbrev sStir : Stmt := top 21
abbrev sDigit : Stmt := top 22
abbrev sWork : Stmt := top 23
abbrev sBook : Stmt := top 24
abbrev sDealt : Stmt := top 26
abbrev sPut : Stmt := top 27
abbrev sBent : Stmt := top 28
abbrev sSets : Stmt := top 29
abbrev sMore : Stmt := top 30
abbrev sBarR : Stmt := top 31
abbrev sOther : Stmt := top 32
abbrev sLaw : Stmt := top 33
def isWhole : PyData → Bool
  | .int _ => true
  | _ => false
def areHands : PyData → Bool
  | .int i => decide (1 ≤ i) && decide (i ≤ 6)
  | _ => false
def risesP (hands : Int) : Int → List PyData → Bool
  | _, [] => true
  | last, .int i :: r => decide (last < i) && decide (i < hands) && risesP hands i r
  | _, _ :: _ => false
def isWork (hands : Int) : PyData → Bool
  | .tuple ds => !ds.isEmpty && risesP hands (-1) ds
  | _ => false
def bookOf : PyData → PyData → Bool
  | .int h, .tuple ws => decide (1 ≤ h) && decide (h ≤ 6) && decide (ws.length ≤ 12) && ws.all (isWork h)
  | _, _ => false
def isBook : PyData → Bool
  | .tuple [dh, dw] => bookOf dh dw
  | _ => false
section
variable {P : Program} {w : World} {K : PySem.W.Frag} {mg : Str → Option Value} {base : Heap}
def spWhole (K : PySem.W.Frag) : Sp := fun vs H Q _ => ∃ x d, vs = [x] ∧ Den K H d x ∧ Q (.bl (isWhole d)) H
theorem scWhole : FnScope ["thing"] ["thing"] (defScope sWhole) := ⟨rfl, rfl, rfl, by decide +kernel, rfl, by decide +kernel, by decide +kernel⟩
theorem ok_whole {f : Addr} {fd : FuncData} (G : Fn K mg "is_whole" sWhole ["thing"] f fd) (B : Bl mg) : FnOk P w K mg base CX0 1 f fd ["thing"] (spWhole K) := by
  refine G.fn.ok scWhole (fun vs H Q E h => ?_) (fun cdv A outer s H vs Q E hr h => ?_)
  · obtain ⟨x, d, rfl, _⟩ := h
    rfl
  · obtain ⟨x, d, rfl, hd, k⟩ := h
    refine ⟨_, pss_one (ps_ret (pe_and (pe_callB call_isi_int rfl B.isinstance b_isi (pa_cons (pv 0) (pa_cons (pe_bltn (v := .ty "int") rfl B.int b_int rfl) pa_nil)))
      (pe_one (pe_not (pe_callB call_isi_bool rfl B.isinstance b_isi (pa_cons (pv 0) (pa_cons (pe_bltn (v := .ty "bool") rfl B.bool b_bool rfl) pa_nil))))))), ?_⟩
    refine ⟨_, rfl, x, kdOf d, rfl, hd.kd, _, rfl, ?_⟩
    refine ite2 (fun c => ?_) (fun c => ?_)
    · refine ⟨_, rfl, x, kdOf d, rfl, hd.kd, _, rfl, ?_⟩
      have e : (!decide (kdOf d = Kd.bl)) = isWhole d := by
        cases d <;> first | rfl | (exfalso; simp [kdOf] at c)
      rw [e]
      exact k
    · have e : false = isWhole d := by
        cases d <;> first | rfl | (exfalso; simp [kdOf] at c)
      rw [e]
      exact k
def spHands (K : PySem.W.Frag) : Sp := fun vs H Q _ => ∃ x d, vs = [x] ∧ Den K H d x ∧ Q (.bl (areHands d)) H
theorem scHands : FnScope ["thing"] ["thing"] (defScope sHands) := ⟨rfl, rfl, rfl, by decide +kernel, rfl, by decide +kernel, by decide +kernel⟩
theorem ok_hands {f fW : Addr} {fd fdW : FuncData} (G : Fn K mg "are_hands" sHands ["thing"] f fd) (B : Bl mg) (W : Fn K mg "is_whole" sWhole ["thing"] fW fdW) : FnOk P w K mg base CX0 2 f fd ["thing"] (spHands K) := by
  have GW : FnOk P w K mg base CX0 1 fW fdW ["thing"] (spWhole K) := ok_whole W B
  obtain ⟨t6, h6⟩ := B.hands
  refine G.fn.ok scHands (fun vs H Q E h => ?_) (fun cdv A outer s H vs Q E hr h => ?_)
  · obtain ⟨x, d, rfl, _⟩ := h
    rfl
  · obtain ⟨x, d, rfl, hd, k⟩ := h
    refine ⟨_, pss_one (ps_ret (pe_and (pe_fn W GW hr rfl (pa_cons (pv 0) pa_nil))
      (pe_one (pe_chain op_le op_le pe_int (pv 0) (pe_glob (v := .int 6) rfl h6 ⟨t6, rfl⟩))))), ?_⟩
    refine ⟨_, rfl, x, d, rfl, hd, _, rfl, ?_⟩
    refine ite2 (fun c => ?_) (fun c => ?_)
    · obtain ⟨i, rfl⟩ : ∃ i, d = .int i := by cases d <;> first | exact ⟨_, rfl⟩ | (exfalso; simp [isWhole] at c)
      obtain rfl := den_int.mp hd
      refine ⟨_, rfl, _, _, rfl, rfl, _, rfl, ?_⟩
      refine ite2 (fun c1 => ?_) (fun c1 => ?_)
      · refine ⟨_, _, rfl, rfl, ?_⟩
        have e : decide (i ≤ 6) = areHands (.int i) := by
          show _ = (decide (1 ≤ i) && decide (i ≤ 6))
          rw [c1, Bool.true_and]
        show Q (.bl (decide (i ≤ 6))) H
        rw [e]; exact k
      · have e : false = areHands (.int i) := by
          show _ = (decide (1 ≤ i) && decide (i ≤ 6))
          have c2 : decide (1 ≤ i) = false := by simpa using c1
          rw [c2, Bool.false_and]
        rw [e]; exact k
    · have e : false = areHands d := by cases d <;> first | rfl | (exfalso; simp [isWhole] at c)
      rw [e]; exact k
theorem risesP_cons_int (h l i : Int) (r : List PyData) : risesP h l (.int i :: r) = (decide (l < i) && decide (i < h) && risesP h i r) := by rw [risesP]
theorem risesP_cons_no (h l : Int) (d : PyData) (r : List PyData) (n : isWhole d = false) : risesP h l (d :: r) = false := by
  cases d <;> first | rfl | (simp [isWhole] at n)
def spWorkP (K : PySem.W.Frag) : Sp := fun vs H Q _ => ∃ n x d, vs = [.int n, x] ∧ Den K H d x ∧ Q (.bl (isWork n d)) H
theorem scWorkP : FnScope ["hands", "thing", "last", "hand"] ["hands", "thing"] (defScope sWorkP) := ⟨rfl, rfl, rfl, by decide +kernel, rfl, by decide +kernel, by decide +kernel⟩
theorem ok_workP {f fW : Addr} {fd fdW : FuncData} (G : Fn K mg "is_work" sWorkP ["hands", "thing"] f fd) (B : Bl mg) (W : Fn K mg "is_whole" sWhole ["thing"] fW fdW) : FnOk P w K mg base CX0 2 f fd ["hands", "thing"] (spWorkP K) := by
  have GW : FnOk P w K mg base CX0 1 fW fdW ["thing"] (spWhole K) := ok_whole W B
  refine G.fn.ok scWorkP (fun vs H Q E h => ?_) (fun cdv A outer s H vs Q E hr h => ?_)
  · obtain ⟨n, x, d, rfl, _⟩ := h
    rfl
  · obtain ⟨n, x, d, rfl, hd, k⟩ := h
    refine ⟨_, pss_cons (ps_if (PW.pt (pw_or (pt_not (pt_val (pe_callB call_isi_tuple rfl B.isinstance b_isi (pa_cons (pv 1) (pa_cons (pe_bltn (v := .ty "tuple") rfl B.tuple b_tuple rfl) pa_nil)))))
        (pw_or1 (pt_cmpR op_eq (pe_callB call_len_seq rfl B.len b_len (pa_cons (pv 1) pa_nil)) pe_int (nomark _))))) (pss_one (ps_ret pe_bl)) pss_nil)
      (pss_cons (ps_set (i := 2) scWorkP.nd rfl (Or.inl rfl) (pe_un un_neg pe_int))
      (pss_cons (ps_for PassesOwn.never rfl (pi_tup (pv 1)) (pg_name (i := 3) scWorkP.nd rfl (Or.inl rfl))
        (pss_cons (ps_if (PW.pt (pw_or (pt_not (pt_val (pe_fn W GW hr rfl (pa_cons (pv 3) pa_nil)))) (pw_or (pt_cmpR op_le (pv 3) (pv 2) (nomark _)) (pw_or1 (pt_cmpR op_ge (pv 3) (pv 0) (nomark _)))))) (pss_one (ps_ret pe_bl)) pss_nil)
        (pss_one (ps_set (i := 2) scWorkP.nd rfl (Or.inl rfl) (pv 3)))))
      (pss_one (ps_ret pe_bl)))), ?_⟩
    refine ⟨_, rfl, x, kdOf d, rfl, hd.kd, _, rfl, ?_⟩
    refine ite2 (fun c => ?_) (fun c => ?_)
    · -- not a tuple
      refine iteT ?_
      have e : false = isWork n d := by
        cases d <;> first | rfl | (exfalso; simp [kdOf] at c)
      rw [e]; exact k
    · obtain ⟨ds, rfl⟩ : ∃ ds, d = .tuple ds := by cases d <;> first | exact ⟨_, rfl⟩ | (exfalso; simp [kdOf] at c)
      obtain ⟨a, xs, rfl, ha, hds⟩ := den_tuple.mp hd
      have hl := denAll_length hds
      refine ⟨_, rfl, a, xs, rfl, .inr ha, rfl, _, rfl, ?_⟩
      refine ite2 (fun c2 => ?_) (fun c2 => ?_)
      · have e : false = isWork n (.tuple ds) := by
          have e1 : ds = [] := by
            have : (xs.length : Int) = 0 := by simpa using c2
            exact List.length_eq_zero_iff.mp (by omega)
          rw [e1]; rfl
        rw [e]; exact k
      · have hne : ds ≠ [] := by
          intro z
          apply c2
          rw [z] at hl
          simp [hl]
        have e0 : isWork n (.tuple ds) = risesP n (-1) ds := by
          show (!ds.isEmpty && risesP n (-1) ds) = _
          cases ds with
          | nil => exact absurd rfl hne
          | cons _ _ => rfl
        rw [e0] at k
        refine ⟨_, rfl, ?_⟩
        refine ⟨_, rfl, a, rfl, ⟨xs, ha⟩, for_tup (K := K) (a := a) (xs := xs) (fun i σ H2 => ∃ (last : Int) (v : Option V), σ = [some (.int n), some (.ref a), some (.int last), v] ∧ H2 = H ∧ risesP n (-1) ds = risesP n last (ds.drop i))
          ⟨-1, none, rfl, rfl, rfl⟩ (fun i σ H2 _ ⟨_, _, _, e, _⟩ => by rw [e]; exact ha) ?_ ?_⟩
        · rintro i y σ H2 hi ⟨last, v, rfl, rfl, hr2⟩
          obtain ⟨dy, hdy, hden⟩ := denAll_at hds hi
          have hdrop : ds.drop i = dy :: ds.drop (i + 1) := by
            obtain ⟨hlt, e⟩ := List.getElem?_eq_some_iff.mp hdy
            rw [List.drop_eq_getElem_cons hlt, e]
          rw [hdrop] at hr2
          refine ⟨_, rfl, y, dy, rfl, hden, _, rfl, ?_⟩
          refine ite2 (fun c3 => ?_) (fun c3 => ?_)
          · refine iteT ?_
            have e : false = risesP n (-1) ds := by rw [hr2, risesP_cons_no]; simpa using c3
            rw [e]; exact k
          · obtain ⟨j, rfl⟩ : ∃ j, dy = .int j := by cases dy <;> first | exact ⟨_, rfl⟩ | (exfalso; simp [isWhole] at c3)
            obtain rfl := den_int.mp hden
            rw [risesP_cons_int] at hr2
            refine ⟨_, rfl, _, rfl, _, _, rfl, rfl, _, rfl, ?_⟩
            refine ite2 (fun c4 => ?_) (fun c4 => ?_)
            · refine iteT ?_
              have c4' : j ≤ last := of_decide_eq_true c4
              have e : false = risesP n (-1) ds := by rw [hr2, decide_eq_false (by omega : ¬ last < j)]; rfl
              rw [e]; exact k
            · have c4' : ¬ j ≤ last := fun z => c4 (decide_eq_true z)
              refine ⟨_, rfl, _, rfl, _, _, rfl, rfl, _, rfl, ?_⟩
              refine ite2 (fun c5 => ?_) (fun c5 => ?_)
              · have c5' : n ≤ j := of_decide_eq_true c5
                have e : false = risesP n (-1) ds := by rw [hr2, decide_eq_false (by omega : ¬ j < n), Bool.and_false]; rfl
                rw [e]; exact k
              · have c5' : ¬ n ≤ j := fun z => c5 (decide_eq_true z)
                refine ⟨_, rfl, j, some (.int j), rfl, rfl, ?_⟩
                rw [hr2, decide_eq_true (by omega : last < j), decide_eq_true (by omega : j < n)]
                rfl
        · rintro σ H2 ⟨last, v, rfl, rfl, hr2⟩
          have e : true = risesP n (-1) ds := by
            rw [hr2, hl, List.drop_length]
            rfl
          show Q (.bl true) _
          rw [e]; exact k
end
end Ab
set_option Elab.async false
set_option linter.all false
set_option maxRecDepth 100000
namespace Ab
open PySem L2
theorem nameAll_go {i : Nat} {x : V} {σ : St} {H : Hp} {A B : St → Hp → Prop} (h : A (σ.set i (some x)) H) : gName i x σ H fun σ2 H2 => tAll σ2 H2 fun b H3 => if b = true then A σ2 H3 else B σ2 H3 := by
  show if true = true then A (σ.set i (some x)) H else B (σ.set i (some x)) H
  exact iteT h
section
variable {P : Program} {w : World} {K : PySem.W.Frag} {mg : Str → Option Value} {base : Heap}
def spBookP (K : PySem.W.Frag) : Sp := fun vs H Q _ => ∃ x d, vs = [x] ∧ Den K H d x ∧ ∀ H', Same H H' → Q (.bl (isBook d)) H'
theorem scBookP : FnScope ["thing", "hands", "works"] ["thing"] (defScope sBookP) := ⟨rfl, rfl, rfl, by decide +kernel, rfl, by decide +kernel, by decide +kernel⟩
theorem ok_bookP {f fW fH fK : Addr} {fd fdW fdH fdK : FuncData} (G : Fn K mg "is_book" sBookP ["thing"] f fd) (B : Bl mg) (W : Fn K mg "is_whole" sWhole ["thing"] fW fdW) (GH : Fn K mg "are_hands" sHands ["thing"] fH fdH) (GK : Fn K mg "is_work" sWorkP ["hands", "thing"] fK fdK) : FnOk P w K mg base CX0 3 f fd ["thing"] (spBookP K) := by
  have OH : FnOk P w K mg base CX0 2 fH fdH ["thing"] (spHands K) := ok_hands GH B W
  have OK : FnOk P w K mg base CX0 2 fK fdK ["hands", "thing"] (spWorkP K) := ok_workP GK B W
  obtain ⟨t12, h12⟩ := B.works
  refine G.fn.ok scBookP (fun vs H Q E h => ?_) (fun cdv A outer s H vs Q E hr h => ?_)
  · obtain ⟨x, d, rfl, _⟩ := h
    rfl
  · obtain ⟨x, d, rfl, hd, k⟩ := h
    refine ⟨_, pss_cons (ps_if (PW.pt (pw_or (pt_not (pt_val (pe_callB call_isi_tuple rfl B.isinstance b_isi (pa_cons (pv 0) (pa_cons (pe_bltn (v := .ty "tuple") rfl B.tuple b_tuple rfl) pa_nil)))))
        (pw_or1 (pt_cmpR op_ne (pe_callB call_len_seq rfl B.len b_len (pa_cons (pv 0) pa_nil)) pe_int (nomark _))))) (pss_one (ps_ret pe_bl)) pss_nil)
      (pss_cons (ps_asg (pv 0) (pg_tup rfl (pgs_cons (pg_name (i := 1) scBookP.nd rfl (Or.inr rfl)) (pgs_cons (pg_name (i := 2) scBookP.nd rfl (Or.inl rfl)) pgs_nil))))
      (pss_cons (ps_if (pt_not (pt_val (pe_fn GH OH hr rfl (pa_cons (pv 1) pa_nil)))) (pss_one (ps_ret pe_bl)) pss_nil)
      (pss_cons (ps_if (PW.pt (pw_or (pt_not (pt_val (pe_callB call_isi_tuple rfl B.isinstance b_isi (pa_cons (pv 2) (pa_cons (pe_bltn (v := .ty "tuple") rfl B.tuple b_tuple rfl) pa_nil)))))
        (pw_or1 (pt_cmpR op_gt (pe_callB call_len_seq rfl B.len b_len (pa_cons (pv 2) pa_nil)) (pe_glob (v := .int 12) rfl h12 ⟨t12, rfl⟩) (nomark _))))) (pss_one (ps_ret pe_bl)) pss_nil)
      (pss_one (ps_ret (pe_callB (call_all rfl) rfl B.all b_all (pa_cons
        (pe_comp (own := ["work"]) (fr := [1]) (frn := ["hands"]) (compOk_of (defScope sBookP) ["thing", "hands", "works"] rfl rfl (by decide +kernel)) rfl (pi_tup (pv 2))
          (fun _ _ _ _ => pg_name (i := 0) (show (["work", "hands"] : List Str).Nodup by decide +kernel) rfl (Or.inl rfl)) (fun _ _ _ _ => pf_nil) (fun _ _ _ _ => pe_fn GK OK hr rfl (pa_cons (pv 1) (pa_cons (pv 0) pa_nil)))) pa_nil))))))), ?_⟩
    refine ⟨_, rfl, x, kdOf d, rfl, hd.kd, _, rfl, ?_⟩
    refine ite2 (fun c => ?_) (fun c => ?_)
    · refine iteT ?_
      have e : false = isBook d := by
        cases d <;> first | rfl | (exfalso; simp [kdOf] at c)
      rw [e]; exact k H (Same.refl H)
    · obtain ⟨ds, rfl⟩ : ∃ ds, d = .tuple ds := by cases d <;> first | exact ⟨_, rfl⟩ | (exfalso; simp [kdOf] at c)
      obtain ⟨a, xs, rfl, ha, hds⟩ := den_tuple.mp hd
      have hl := denAll_length hds
      refine ⟨_, rfl, a, xs, rfl, .inr ha, rfl, _, rfl, ?_⟩
      refine ite2 (fun c2 => ?_) (fun c2 => ?_)
      · have e : false = isBook (.tuple ds) := by
          match ds, hl, c2 with
          | [], _, _ => rfl
          | [_], _, _ => rfl
          | [_, _], hl, c2 => exfalso; rw [hl] at c2; simp at c2
          | _ :: _ :: _ :: _, _, _ => rfl
        rw [e]; exact k H (Same.refl H)
      · obtain ⟨dh, dw, rfl⟩ : ∃ dh dw, ds = [dh, dw] := by
          match ds, hl, c2 with
          | [], hl, c2 => exfalso; rw [hl] at c2; simp at c2
          | [_], hl, c2 => exfalso; rw [hl] at c2; simp at c2
          | [p, q], _, _ => exact ⟨p, q, rfl⟩
          | p :: q :: r :: t, hl, c2 => exfalso; apply c2; rw [hl]; simp; omega
        obtain ⟨xh, r1, rfl, hh, h2⟩ := denAll_cons.mp hds
        obtain ⟨xw, r2, rfl, hw, h3⟩ := denAll_cons.mp h2
        obtain rfl := denAll_nil.mp h3
        -- hands, works = thing
        refine ⟨_, rfl, a, _, rfl, ha, rfl, _, _, rfl, _, _, rfl, rfl, ?_⟩
        -- are_hands(hands)
        refine ⟨_, rfl, xh, dh, rfl, hh, _, rfl, ?_⟩
        refine ite2 (fun c3 => ?_) (fun c3 => ?_)
        · have e : false = isBook (.tuple [dh, dw]) := by
            have c3' : areHands dh = false := by simpa using c3
            cases dh with
            | int n =>
              cases dw with
              | tuple ws =>
                have c4 : (decide (1 ≤ n) && decide (n ≤ 6)) = false := c3'
                show _ = (decide (1 ≤ n) && decide (n ≤ 6) && decide (ws.length ≤ 12) && ws.all (isWork n))
                rw [c4]; rfl
              | _ => rfl
            | _ => rfl
          rw [e]; exact k H (Same.refl H)
        · obtain ⟨n, rfl, hn⟩ : ∃ n, dh = .int n ∧ (decide (1 ≤ n) && decide (n ≤ 6)) = true := by
            cases dh <;> first | exact ⟨_, rfl, by simpa [areHands] using c3⟩ | (exfalso; simp [areHands] at c3)
          obtain rfl := den_int.mp hh
          refine ⟨_, rfl, xw, kdOf dw, rfl, hw.kd, _, rfl, ?_⟩
          refine ite2 (fun c5 => ?_) (fun c5 => ?_)
          · refine iteT ?_
            have e : false = isBook (.tuple [.int n, dw]) := by
              cases dw <;> first | rfl | (exfalso; simp [kdOf] at c5)
            rw [e]; exact k H (Same.refl H)
          · obtain ⟨ws, rfl⟩ : ∃ ws, dw = .tuple ws := by cases dw <;> first | exact ⟨_, rfl⟩ | (exfalso; simp [kdOf] at c5)
            obtain ⟨b, ys, rfl, hb, hws⟩ := den_tuple.mp hw
            have hlw := denAll_length hws
            have eB : isBook (.tuple [.int n, .tuple ws]) = (decide (ws.length ≤ 12) && ws.all (isWork n)) := by
              show (decide (1 ≤ n) && decide (n ≤ 6) && decide (ws.length ≤ 12) && ws.all (isWork n)) = _
              rw [hn, Bool.true_and]
            rw [eB] at k
            refine ⟨_, rfl, b, ys, rfl, .inr hb, _, _, rfl, rfl, _, rfl, ?_⟩
            refine ite2 (fun c6 => ?_) (fun c6 => ?_)
            · have c6' : (12 : Int) < ys.length := of_decide_eq_true c6
              have e : false = (decide (ws.length ≤ 12) && ws.all (isWork n)) := by rw [decide_eq_false (by omega : ¬ ws.length ≤ 12)]; rfl
              rw [e]; exact k H (Same.refl H)
            · have c6' : ¬ (12 : Int) < ys.length := fun z => c6 (decide_eq_true z)
              have e1 : decide (ws.length ≤ 12) = true := decide_eq_true (by omega)
              rw [e1, Bool.true_and] at k
              refine ⟨_, rfl, b, rfl, ⟨ys, hb⟩, comp_tup (K := K) (a := b) (xs := ys) (fun σ => ∃ v, σ = [v, some (.int n)]) (fun i zs H2 => H2 = H ∧ zs = ((ws.take i).map (isWork n)).map V.bl) ?_ ⟨none, rfl⟩ ⟨rfl, rfl⟩ ?_ ?_ ?_ ?_⟩
              · rw [sizeLine_eq]; omega
              · rintro i zs H2 ⟨_, rfl⟩
                rw [List.length_map, List.length_map, List.length_take]; omega
              · rintro i zs H2 ⟨rfl, _⟩
                exact hb
              · rintro i zs σ x H2 hx ⟨v, rfl⟩ ⟨rfl, rfl⟩ hz
                obtain ⟨dx, hdx, hden⟩ := denAll_at hws hx
                refine nameAll_go ?_
                refine ⟨_, rfl, _, rfl, n, x, dx, rfl, hden, hz, ⟨some x, rfl⟩, rfl, ?_⟩
                rw [List.take_succ, hdx]
                simp
              · rintro zs H2 ⟨rfl, rfl⟩ p hp
                refine ⟨p, _, rfl, SqL.of upd_same, ?_⟩
                have e2 : ((ws.take ys.length).map (isWork n)).all id = ws.all (isWork n) := by
                  rw [hlw, List.take_length, List.all_map]
                  rfl
                rw [e2]
                exact k _ (Same.new hp)
end
end Ab
set_option Elab.async false
set_option linter.all false
set_option maxRecDepth 100000
namespace Ab
open PySem L2
def workD (l : List Int) : PyData := .tuple (l.map .int)
def bookD (n : Int) (ws : List (List Int)) : PyData := .tuple [.int n, .tuple (ws.map workD)]
def dealD (hs : List Int) : PyData := .tuple (hs.map .int)
def handIn : PyData → List Int → Bool
  | .int i, l => l.any (· == i)
  | _, _ => false
def dealP (ws : List (List Int)) : PyData → Bool
  | .tuple hs => decide (hs.length = ws.length) && (hs.zip ws).all fun p => handIn p.1 p.2
  | _ => false
theorem flat_ints (l : List Int) : (l.map V.int).all flatV = true := by
  rw [List.all_map]
  exact List.all_eq_true.mpr fun _ _ => rfl
theorem in_ints (i : Int) (l : List Int) : inV (.int i) (l.map V.int) = l.any (· == i) := by
  unfold inV
  rw [List.any_map]
  rfl
theorem den_book {K : PySem.W.Frag} {H : Hp} {n : Int} {ws : List (List Int)} {x : V} (h : Den K H (bookD n ws) x) : ∃ a b ys, x = .ref a ∧ SqT K H a [.int n, .ref b] ∧ SqT K H b ys ∧ DenAll K H (ws.map workD) ys := by
  obtain ⟨a, xs, rfl, ha, hds⟩ := den_tuple.mp h
  obtain ⟨xh, r1, rfl, hh, h2⟩ := denAll_cons.mp hds
  obtain ⟨xw, r2, rfl, hw, h3⟩ := denAll_cons.mp h2
  obtain rfl := denAll_nil.mp h3
  obtain rfl := den_int.mp hh
  obtain ⟨b, ys, rfl, hb, hys⟩ := den_tuple.mp hw
  exact ⟨a, b, ys, rfl, ha, hb, hys⟩
theorem book_parts {n : Int} {ws : List (List Int)} (h : isBook (bookD n ws) = true) : 1 ≤ n ∧ n ≤ 6 ∧ ws.length ≤ 12 ∧ ∀ l ∈ ws, isWork n (workD l) = true := by
  have h' : (decide (1 ≤ n) && decide (n ≤ 6) && decide ((ws.map workD).length ≤ 12) && (ws.map workD).all (isWork n)) = true := h
  simp only [Bool.and_eq_true, decide_eq_true_eq, List.length_map, List.all_eq_true] at h'
  exact ⟨h'.1.1.1, h'.1.1.2, h'.1.2, fun l hl => h'.2 _ (List.mem_map.mpr ⟨l, hl, rfl⟩)⟩
theorem pg_tupK {X : Cx} {pos : Pos} {es : List Expr} {k : Nat} {t : TGs} {n : Nat} {K : PySem.W.Frag} (hK : X.K = K) (hc : X.calm = true) (h : PGs X es t)
    (hn : (assignEach es X.env).length = n := by rfl) (hst : (assignEach es X.env).findIdx? (·.1) = none := by rfl) : PG X (.Tuple es k pos) (gTup K n t) := by
  subst hK
  exact pg_tup hc h hn hst
section
variable {X : Cx} {K : PySem.W.Frag}
theorem op_in_seqK (hK : X.K = K) : OpR X (compareOp .In) (rIn K false) := by subst hK; exact op_in_seq
theorem ix_tupK (hK : X.K = K) : IxR X (rIxT K) := by subst hK; exact ix_tup
theorem call_len_seqK (hK : X.K = K) : CallR X (.builtin "len") (fun xs H Q => ∃ p ys, xs = [.ref p] ∧ (SqL K H p ys ∨ SqT K H p ys) ∧ Q (.int ys.length) H) := by subst hK; exact call_len_seq
end
section
variable {P : Program} {w : World} {K : PySem.W.Frag} {mg : Str → Option Value} {base : Heap}
structure Pr (K : PySem.W.Frag) (mg : Str → Option Value) (fW fH fK fB fNB : Addr) (dW dH dK dB dNB : FuncData) : Prop where
  W : Fn K mg "is_whole" sWhole ["thing"] fW dW
  H : Fn K mg "are_hands" sHands ["thing"] fH dH
  Kw : Fn K mg "is_work" sWorkP ["hands", "thing"] fK dK
  B : Fn K mg "is_book" sBookP ["thing"] fB dB
  NB : Fn K mg "need_book" sNeedB ["book"] fNB dNB
variable {fW fH fK fB fNB : Addr} {dW dH dK dB dNB : FuncData}

def spNeedB (K : PySem.W.Frag) : Sp := fun vs H Q _ => ∃ x d, vs = [x] ∧ Den K H d x ∧ isBook d = true ∧ ∀ H', Same H H' → Q .non H'
theorem scNeedB : FnScope ["book"] ["book"] (defScope sNeedB) := ⟨rfl, rfl, rfl, by decide +kernel, rfl, by decide +kernel, by decide +kernel⟩
theorem ok_needB (B : Bl mg) (R : Pr K mg fW fH fK fB fNB dW dH dK dB dNB) : FnOk P w K mg base CX0 4 fNB dNB ["book"] (spNeedB K) := by
  have OB : FnOk P w K mg base CX0 3 fB dB ["thing"] (spBookP K) := ok_bookP R.B B R.W R.H R.Kw
  refine R.NB.fn.ok scNeedB (fun vs H Q E h => ?_) (fun cdv A outer s H vs Q E hr h => ?_)
  · obtain ⟨x, d, rfl, _⟩ := h
    rfl
  · obtain ⟨x, d, rfl, hd, hb, k⟩ := h
    refine ⟨_, pss_one (ps_if (pt_not (pt_val (pe_fn R.B OB hr rfl (pa_cons (pv 0) pa_nil)))) pss_never pss_nil), ?_⟩
    refine ⟨_, rfl, x, d, rfl, hd, fun H' hs => ⟨_, rfl, ?_⟩⟩
    rw [hb]
    refine iteF ?_
    exact k H' hs

end
end Ab
set_option Elab.async false
set_option linter.all false
set_option maxRecDepth 100000
namespace Ab
open PySem L2
theorem upto_length (n : Nat) : (upto n).length = n := by unfold upto; rw [List.length_map, List.length_range]
theorem pe_bmK {X : Cx} {K : PySem.W.Frag} {o e : Expr} {es : List Expr} {to : TE} {t : TA} {name : Str} {apos cpos : Pos} {T id : String} {r : V → List V → Hp → VK → Prop} (hK : X.K = K) (pa : PlainAttrs T) (slot : Slot T name id) (hty : typeOf (.builtin id) = pure (.type "method_descriptor")) (hm : MtR X id r) (ho : PE X o to) (ha : PA X (e :: es) t)
    (hbase : attributeBase o name X.env (eval o X.env) = eval o X.env := by rfl)
    (hfew : ((backTo cpos (starEach (e :: es) X.env)).all (fun x => !x.1) && (backToKw cpos (keywordEach [] X.env)).all (fun x => x.1.isSome)
      && decide ((e :: es).length + ([] : List Keyword).length + (if ([] : List Keyword).isEmpty then 0 else 1) < 30)) = true := by rfl)
    (hline : (apos.endLine == cpos.line) = true := by rfl) (hs : starEach (e :: es) X.env = (false, eval e X.env) :: starEach es X.env := by rfl) (hplain : (backTo cpos (starEach es X.env)).any (·.1) = false := by rfl) :
    PE X (.Call (.Attribute o name apos) (e :: es) [] cpos) (tBM K T r to t) := by
  subst hK
  exact pe_bm pa slot hty hm ho ha hbase hfew hline hs hplain
section
variable {P : Program} {w : World} {K : PySem.W.Frag} {mg : Str → Option Value} {base : Heap}
def Good (K : PySem.W.Frag) (H : Hp) (x y : V) (n : Int) (ws : List (List Int)) (hs : List Int) : Prop := Den K H (bookD n ws) x ∧ isBook (bookD n ws) = true ∧ Den K H (dealD hs) y ∧ dealP ws (dealD hs) = true
theorem Good.same {H H' : Hp} {x y : V} {n : Int} {ws : List (List Int)} {hs : List Int} (g : Good K H x y n ws hs) (e : Same H H') : Good K H' x y n ws hs := ⟨e.den _ _ g.1, g.2.1, e.den _ _ g.2.2.1, g.2.2.2⟩
theorem Good.len {H : Hp} {x y : V} {n : Int} {ws : List (List Int)} {hs : List Int} (g : Good K H x y n ws hs) : hs.length ≤ 12 ∧ 1 ≤ n ∧ n ≤ 6 := by
  obtain ⟨h1, h2, h3, _⟩ := book_parts g.2.1
  have h : (decide ((hs.map PyData.int).length = ws.length) && ((hs.map PyData.int).zip ws).all fun p => handIn p.1 p.2) = true := g.2.2.2
  simp only [Bool.and_eq_true, decide_eq_true_eq, List.length_map] at h
  omega

end
end Ab
set_option Elab.async false
set_option linter.all false
set_option maxRecDepth 100000
namespace Ab
open PySem L2
def But (t : Addr) (H H' : Hp) : Prop := ∀ b o, b ≠ t → H b = some o → H' b = some o
theorem But.refl (t : Addr) (H : Hp) : But t H H := fun _ _ _ h => h
theorem But.trans {t : Addr} {H H1 H2 : Hp} (a : But t H H1) (b : But t H1 H2) : But t H H2 := fun c o n h => b c o n (a c o n h)
theorem But.of {t : Addr} {H H' : Hp} (a : Same H H') : But t H H' := fun c o _ h => a c o h
theorem But.at {t : Addr} {H : Hp} {u : HO} : But t H (upd H t u) := fun c o n h => by rw [upd_ne n]; exact h
theorem But.free {t : Addr} {H H' : Hp} (e : But t H H') {l : Addr} (h : H' l = none) (n : l ≠ t) : H l = none := by
  cases q : H l with
  | none => rfl
  | some o => rw [e l o n q] at h; cases h
theorem But.rdL {t a : Addr} {H H' : Hp} {xs : List V} (e : But t H H') (n : a ≠ t) (h : Rd H a (.lst xs)) : Rd H' a (.lst xs) := by
  rcases h with h | ⟨o, h⟩
  · exact .inl (e a _ n h)
  · exact .inr ⟨o, e a _ n h⟩
section
variable {K : PySem.W.Frag} {t : Addr} {H H' : Hp} {ys : List V}
theorem But.seqT {a : Addr} {xs : List V} (e : But t H H') (ht : H t = some (.lst ys)) (h : SqT K H a xs) : SqT K H' a xs := by
  rcases h with (h | ⟨o, h⟩) | h
  · exact .inl (.inl (e a _ (fun z => by rw [z, ht] at h; cases h) h))
  · exact .inl (.inr ⟨o, e a _ (fun z => by rw [z, ht] at h; cases h) h⟩)
  · exact .inr h
theorem But.seqL {a : Addr} {xs : List V} (e : But t H H') (n : a ≠ t) (h : SqL K H a xs) : SqL K H' a xs := by
  rcases h with h | h
  · exact .inl (e.rdL n h)
  · exact .inr h
mutual
def noList : PyData → Bool
  | .dict _ => false
  | .list _ => false
  | .tuple ds => noLists ds
  | _ => true
def noLists : List PyData → Bool
  | [] => true
  | d :: ds => noList d && noLists ds
end
mutual
theorem But.den (e : But t H H') (ht : H t = some (.lst ys)) : ∀ (d : PyData) (v : V), noList d = true → Den K H d v → Den K H' d v
  | .none, v, _, h => by unfold Den at h ⊢; exact h
  | .bool b, v, _, h => by unfold Den at h ⊢; exact h
  | .int i, v, _, h => by unfold Den at h ⊢; exact h
  | .str x, v, _, h => by unfold Den at h ⊢; exact h
  | .list ds, v, n, h => by unfold noList at n; cases n
  | .tuple ds, v, n, h => by unfold noList at n; unfold Den at h ⊢; obtain ⟨a, xs, h1, h2, h3⟩ := h; exact ⟨a, xs, h1, e.seqT ht h2, But.denAll e ht ds xs n h3⟩
  | .dict kvs, v, n, h => by unfold noList at n; cases n
theorem But.denAll (e : But t H H') (ht : H t = some (.lst ys)) : ∀ (ds : List PyData) (xs : List V), noLists ds = true → DenAll K H ds xs → DenAll K H' ds xs
  | [], xs, _, h => by unfold DenAll at h ⊢; exact h
  | d :: ds, xs, n, h => by
    unfold noLists at n; rw [Bool.and_eq_true] at n
    unfold DenAll at h ⊢; obtain ⟨x, r, h1, h2, h3⟩ := h; exact ⟨x, r, h1, But.den e ht d x n.1 h2, But.denAll e ht ds r n.2 h3⟩
end
end
theorem noLists_map {α : Type} (f : α → PyData) (h : ∀ x, noList (f x) = true) : ∀ l : List α, noLists (l.map f) = true
  | [] => by unfold List.map noLists; rfl
  | x :: r => by rw [List.map_cons]; unfold noLists; rw [h x, noLists_map f h r]; rfl
theorem noList_int (i : Int) : noList (.int i) = true := by unfold noList; rfl
theorem noList_work (l : List Int) : noList (workD l) = true := by unfold workD noList; exact noLists_map _ noList_int l
theorem noList_book (n : Int) (ws : List (List Int)) : noList (bookD n ws) = true := by
  unfold bookD noList noLists
  rw [noList_int]
  unfold noLists noList
  rw [noLists_map _ noList_work ws]
  unfold noLists
  rfl

def Tape (K : PySem.W.Frag) (H : Hp) (t a : Addr) (ns : List Int) : Prop := (∃ p q : Int, 0 ≤ p ∧ H t = some (.lst [.ref a, .int p, .int q])) ∧ SqL K H a (ns.map V.int)
theorem Tape.same {K : PySem.W.Frag} {H H' : Hp} {t a : Addr} {ns : List Int} (h : Tape K H t a ns) (e : Same H H') : Tape K H' t a ns := by
  obtain ⟨⟨p, q, h1, h2⟩, h3⟩ := h
  exact ⟨⟨p, q, h1, e t _ h2⟩, e.seqL h3⟩
theorem Tape.den {K : PySem.W.Frag} {H H' : Hp} {t a : Addr} {ns : List Int} (h : Tape K H t a ns) (e : But t H H') {d : PyData} {v : V} (n : noList d = true) (hd : Den K H d v) : Den K H' d v := by
  obtain ⟨⟨p, q, h1, h2⟩, h3⟩ := h
  exact e.den h2 d v n hd
theorem Tape.seqT {K : PySem.W.Frag} {H H' : Hp} {t a : Addr} {ns : List Int} (h : Tape K H t a ns) (e : But t H H') {b : Addr} {xs : List V} (hd : SqT K H b xs) : SqT K H' b xs := by
  obtain ⟨⟨p, q, h1, h2⟩, h3⟩ := h
  exact e.seqT h2 hd
theorem Tape.ne {K : PySem.W.Frag} {H : Hp} {t a : Addr} {ns : List Int} (h : Tape K H t a ns) {b : Addr} (hb : H b = none) : b ≠ t := by
  obtain ⟨⟨p, q, h1, h2⟩, h3⟩ := h
  intro z
  rw [z, h2] at hb
  cases hb
theorem noref_ints {ns : List Int} {xs : List V} {a : Addr} {r : List V} (h : ns.map V.int = .ref a :: r) : False := by
  cases ns with
  | nil => cases h
  | cons _ _ => rw [List.map_cons] at h; cases h
theorem tape_upd {K : PySem.W.Frag} {H : Hp} {t a : Addr} {ns : List Int} {p q : Int} {u : HO} (h2 : H t = some (.lst [.ref a, .int p, .int q])) (h : SqL K H a (ns.map V.int)) : SqL K (upd H t u) a (ns.map V.int) := by
  rcases h with (h | ⟨o, h⟩) | h
  · have n : a ≠ t := fun z => by
      rw [z, h2] at h
      injection h with h
      injection h with h
      exact noref_ints (xs := []) h.symm
    exact .inl (.inl (by rw [upd_ne n]; exact h))
  · have n : a ≠ t := fun z => by
      rw [z, h2] at h
      cases h
    exact .inl (.inr ⟨o, by rw [upd_ne n]; exact h⟩)
  · exact .inr h
section
variable {P : Program} {w : World} {K : PySem.W.Frag} {mg : Str → Option Value} {base : Heap}
theorem noDict_ints (ns : List Int) : noDict (.list (ns.map .int)) = true := by
  unfold noDict
  induction ns with
  | nil => unfold List.map noDicts; rfl
  | cons n r ih => rw [List.map_cons]; unfold noDicts; rw [ih]; unfold noDict; rfl
theorem canLay_map {α : Type} (f : α → PyData) (h : ∀ x, (f x).canLay0 = true) : ∀ l : List α, PyData.canLayAll0 (l.map f) = true
  | [] => by unfold List.map PyData.canLayAll0; rfl
  | x :: r => by rw [List.map_cons]; unfold PyData.canLayAll0; rw [h x, canLay_map f h r]; rfl
theorem depth_map {α : Type} {k : Nat} (f : α → PyData) (h : ∀ x, (f x).depth ≤ k) : ∀ l : List α, PyData.depthAll (l.map f) ≤ k
  | [] => by unfold List.map PyData.depthAll; exact Nat.zero_le _
  | x :: r => by rw [List.map_cons]; unfold PyData.depthAll; exact Nat.max_le.mpr ⟨h x, depth_map f h r⟩
theorem canLay_int (i : Int) : (PyData.int i).canLay0 = true := by unfold PyData.canLay0; rfl
theorem depth_int (i : Int) : (PyData.int i).depth ≤ 0 := by unfold PyData.depth; exact Nat.le_refl _
theorem canLay_lints (ns : List Int) : (PyData.list (ns.map .int)).canLay0 = true := by unfold PyData.canLay0; exact canLay_map _ canLay_int ns
theorem canLay_tints (ns : List Int) : (PyData.tuple (ns.map .int)).canLay0 = true := by unfold PyData.canLay0; exact canLay_map _ canLay_int ns
theorem depth_lints (ns : List Int) : (PyData.list (ns.map .int)).depth ≤ 1 := by unfold PyData.depth; exact Nat.succ_le_succ (depth_map _ depth_int ns)
theorem depth_tints (ns : List Int) : (PyData.tuple (ns.map .int)).depth ≤ 1 := by unfold PyData.depth; exact Nat.succ_le_succ (depth_map _ depth_int ns)
theorem shaped_of {d : PyData} (h1 : d.canLay0 = true) (h2 : d.depth ≤ 64) : SeqAt.shaped d = true := by
  unfold SeqAt.shaped
  rw [h1, decide_eq_true h2]
  rfl
theorem shaped_ints (ns : List Int) : SeqAt.shaped (.list (ns.map .int)) = true := shaped_of (canLay_lints ns) (Nat.le_trans (depth_lints ns) (by decide))
theorem shaped_tints (ns : List Int) : SeqAt.shaped (.tuple (ns.map .int)) = true := shaped_of (canLay_tints ns) (Nat.le_trans (depth_tints ns) (by decide))
theorem noDict_tints (ns : List Int) : noDict (.tuple (ns.map .int)) = true := by
  have h := noDict_ints ns
  unfold noDict at h ⊢
  exact h
def spStir : Sp := fun vs H Q _ => ∃ c a : Int, vs = [.int c, .int a] ∧ ∀ r, Q (.int r) H
theorem scStir : FnScope ["cell", "at", "first", "second", "third"] ["cell", "at"] (defScope sStir) := ⟨rfl, rfl, rfl, by decide +kernel, rfl, by decide +kernel, by decide +kernel⟩
theorem ok_stir {f : Addr} {fd : FuncData} (G : Fn K mg "_law_b_stirred" sStir ["cell", "at"] f fd) : FnOk P w K mg base CX0 1 f fd ["cell", "at"] spStir := by
  refine G.fn.ok scStir (fun vs H Q E h => ?_) (fun cdv A outer s H vs Q E hr h => ?_)
  · obtain ⟨c, a, rfl, _⟩ := h
    rfl
  · obtain ⟨c, a, rfl, k⟩ := h
    refine ⟨_, pss_cons (ps_if (pt_cmpR op_ge (pv 0) (pe_op op_pow pe_int pe_int) (nomark _)) (pss_one (ps_ret (pv 0))) pss_nil)
      (pss_cons (ps_set (i := 2) scStir.nd rfl (Or.inl rfl) (pe_op op_mod (pe_op op_add (pe_op op_add (pe_op op_mul (pe_op op_mod (pv 0) pe_int) pe_int) (pe_op op_mul (pv 1) pe_int)) pe_int) pe_int))
      (pss_cons (ps_set (i := 3) scStir.nd rfl (Or.inl rfl) (pe_op op_mod (pe_op op_add (pe_op op_add (pe_op op_mul (pv 2) (pv 2)) (pe_op op_mul pe_int (pv 1))) pe_int) pe_int))
      (pss_cons (ps_set (i := 4) scStir.nd rfl (Or.inl rfl) (pe_op op_mod (pe_op op_add (pe_op op_add (pe_op op_mul (pv 3) (pv 3)) (pe_op op_mul pe_int (pv 2))) (pv 1)) pe_int))
      (pss_one (ps_ret (pe_op op_add (pe_op op_mul (pv 3) pe_int) (pv 4))))))), ?_⟩
    refine ⟨_, rfl, _, _, rfl, rfl, ⟨by decide, by decide, by decide⟩, _, _, rfl, rfl, _, rfl, ?_⟩
    refine ite2 (fun c1 => ?_) (fun c1 => ?_)
    · exact ⟨_, rfl, k _⟩
    · refine ⟨_, rfl, _, _, rfl, rfl, (show (0 : Int) < _ by decide), _, _, rfl, rfl, .inr ⟨by decide, by decide⟩, _, rfl, _, _, rfl, rfl, .inr ⟨by decide, by decide⟩, _, _, rfl, rfl, _, _, rfl, rfl, _, _, rfl, rfl, (show (0 : Int) < _ by decide), ?_⟩
      generalize hf : ((c % 2147483629 * 43591 + a * 6661 + 353) % 2147483587 : Int) = f1
      have b1 : 0 ≤ f1 ∧ f1 < 2147483587 := by rw [← hf]; exact ⟨Int.emod_nonneg _ (by decide), Int.emod_lt_of_pos _ (by decide)⟩
      refine ⟨_, rfl, _, rfl, _, _, rfl, rfl, .inl ⟨by omega, by omega⟩, _, rfl, _, _, rfl, rfl, .inl ⟨by decide, by decide⟩, _, _, rfl, rfl, _, _, rfl, rfl, _, _, rfl, rfl, (show (0 : Int) < _ by decide), ?_⟩
      generalize hg : ((f1 * f1 + 727 * a + 89) % 2147483579 : Int) = f2
      have b2 : 0 ≤ f2 ∧ f2 < 2147483579 := by rw [← hg]; exact ⟨Int.emod_nonneg _ (by decide), Int.emod_lt_of_pos _ (by decide)⟩
      refine ⟨_, rfl, _, rfl, _, _, rfl, rfl, .inl ⟨by omega, by omega⟩, _, rfl, _, _, rfl, rfl, .inl ⟨by decide, by decide⟩, _, _, rfl, rfl, _, rfl, _, _, rfl, rfl, _, _, rfl, rfl, (show (0 : Int) < _ by decide), ?_⟩
      exact ⟨_, rfl, _, _, rfl, rfl, .inr ⟨by decide, by decide⟩, _, rfl, _, _, rfl, rfl, k _⟩
def spDigit (K : PySem.W.Frag) : Sp := fun vs H Q _ => ∃ (t a : Addr) (ns : List Int) (m : Int), vs = [.ref t, .int m] ∧ Tape K H t a ns ∧ 0 < m ∧ m < 1267650600228229401496703205376 ∧ ∀ r H', 0 ≤ r → r < m → But t H H' → Tape K H' t a ns → Q (.int r) H'
theorem _root_.L2.Room.u64 {k : Nat} {A : Around} (r : Room k A) : A.units + 64 < cLine := by have := r.un; omega
theorem scDigit : FnScope ["tape", "many", "at", "cell", "found"] ["tape", "many"] (defScope sDigit) := ⟨rfl, rfl, rfl, by decide +kernel, rfl, by decide +kernel, by decide +kernel⟩
theorem ok_digit {f fS : Addr} {fd fdS : FuncData} (G : Fn K mg "_law_b_digit" sDigit ["tape", "many"] f fd) (B : Bl mg) (GS : Fn K mg "_law_b_stirred" sStir ["cell", "at"] fS fdS) : FnOk P w K mg base CX0 2 f fd ["tape", "many"] (spDigit K) := by
  have OS : FnOk P w K mg base CX0 1 fS fdS ["cell", "at"] spStir := ok_stir GS
  refine G.fn.ok scDigit (fun vs H Q E h => ?_) (fun cdv A outer s H vs Q E hr h => ?_)
  · obtain ⟨t, a, ns, m, rfl, _⟩ := h
    rfl
  · obtain ⟨t, a, ns, m, rfl, ⟨⟨p, q, hp, ht⟩, hns⟩, hm1, hm2, k⟩ := h
    refine ⟨_, pss_cons (ps_if (pt_cmpR op_lt (pe_ix ix_list (pv 0) pe_int (fun _ _ => rfl)) (pv 1) (nomark _))
        (pss_cons (ps_set (i := 2) scDigit.nd rfl (Or.inl rfl) (pe_ix ix_list (pv 0) pe_int (fun _ _ => rfl)))
        (pss_cons (ps_set (i := 3) scDigit.nd rfl (Or.inl rfl) (pe_op op_add (pe_op op_mul pe_int (pv 2)) pe_int))
        (pss_cons (ps_if (pt_cmpR op_lt (pv 2) (pe_callB call_len_seq rfl B.len b_len (pa_cons (pe_ix ix_list (pv 0) pe_int (fun _ _ => rfl)) pa_nil)) (nomark _))
            (pss_one (ps_set (i := 3) scDigit.nd rfl (Or.inl rfl) (pe_ix ix_list (pe_ix ix_list (pv 0) pe_int (fun _ _ => rfl)) (pv 2) (fun _ _ => rfl))))
            (pss_one (ps_if (pt_cmpR (op_neD hr.u64) (pe_ix ix_list (pv 0) pe_int (fun _ _ => rfl)) (pe_lst pa_nil) (nomark _))
              (pss_one (ps_set (i := 3) scDigit.nd rfl (Or.inl rfl) (pe_op op_add (pe_op op_mod (pe_ix ix_list (pe_ix ix_list (pv 0) pe_int (fun _ _ => rfl)) (pe_op op_mod (pe_op op_mul (pv 2) pe_int) (pe_callB call_len_seq rfl B.len b_len (pa_cons (pe_ix ix_list (pv 0) pe_int (fun _ _ => rfl)) pa_nil))) (fun _ _ => rfl)) pe_int) (pe_op op_mul (pv 2) pe_int))))
              pss_nil)))
        (pss_cons (ps_asg (pe_op op_add (pv 2) pe_int) (pg_sub (pv 0) pe_int set_list))
        (pss_one (ps_asg (pe_fn GS OS hr rfl (pa_cons (pv 3) (pa_cons (pv 2) pa_nil))) (pg_sub (pv 0) pe_int set_list)))))))
        pss_nil)
      (pss_cons (ps_set (i := 4) scDigit.nd rfl (Or.inl rfl) (pe_op op_mod (pe_ix ix_list (pv 0) pe_int (fun _ _ => rfl)) (pv 1)))
      (pss_cons (ps_asg (pe_op op_fdivB (pe_ix ix_list (pv 0) pe_int (fun _ _ => rfl)) (pv 1)) (pg_sub (pv 0) pe_int set_list))
      (pss_one (ps_ret (pv 4))))), ?_⟩
    refine ⟨_, rfl, t, _, 2, .int q, rfl, rfl, SqL.of ht, rfl, _, rfl, _, _, rfl, rfl, _, rfl, ?_⟩
    refine ite2 (fun c1 => ?_) (fun c1 => ?_)
    · refine ⟨_, rfl, t, _, 1, .int p, rfl, rfl, SqL.of ht, rfl, ?_⟩
      refine ⟨_, rfl, _, _, rfl, rfl, .inl ⟨by decide, by decide⟩, _, _, rfl, rfl, ?_⟩
      refine ⟨_, rfl, _, rfl, t, _, 0, .ref a, rfl, rfl, SqL.of ht, rfl, a, _, rfl, .inl hns, _, _, rfl, rfl, _, rfl, ?_⟩
      refine ite2 (fun c2 => ?_) (fun c2 => ?_)
      · have c2' : p < ((ns.map V.int).length : Int) := of_decide_eq_true c2
        rw [List.length_map] at c2'
        have hlt : p.toNat < ns.length := by omega
        have hat : atI (ns.map V.int) p = some (.int (ns[p.toNat])) := by
          have h1 : (ns.map V.int)[p.toNat]? = some (.int (ns[p.toNat])) := by rw [List.getElem?_map, List.getElem?_eq_getElem hlt]; rfl
          have h2 := atI_nat h1
          rwa [Int.toNat_of_nonneg hp] at h2
        refine ⟨_, rfl, t, _, 0, .ref a, rfl, rfl, SqL.of ht, rfl, _, rfl, a, _, _, _, rfl, rfl, hns, hat, ?_⟩
        refine ⟨_, rfl, _, _, rfl, rfl, _, rfl, t, _, _, 1, rfl, rfl, ht, rfl, ?_⟩
        refine ⟨_, rfl, _, rfl, _, _, rfl, fun r => ⟨_, rfl, t, _, _, 2, rfl, rfl, upd_same, rfl, ?_⟩⟩
        refine ⟨_, rfl, t, _, 2, .int r, rfl, rfl, SqL.of upd_same, rfl, _, rfl, _, _, rfl, rfl, hm1, ?_⟩
        refine ⟨_, rfl, t, _, 2, .int r, rfl, rfl, SqL.of upd_same, rfl, _, rfl, _, _, rfl, rfl, ⟨hm1, hm2⟩, _, rfl, t, _, _, 2, rfl, rfl, upd_same, rfl, ?_⟩
        exact ⟨_, rfl, k _ _ (Int.emod_nonneg _ (by omega)) (Int.emod_lt_of_pos _ hm1) ((But.refl t H).trans (But.at.trans (But.at.trans But.at))) ⟨⟨p + 1, r / m, by omega, upd_same⟩, tape_upd (p := p + 1) (q := r) upd_same (tape_upd (p := p + 1) (q := q) upd_same (tape_upd ht hns))⟩⟩
      · refine ⟨_, rfl, t, _, 0, .ref a, rfl, rfl, SqL.of ht, rfl, by decide, fun l hl => ?_⟩
        have ntl : t ≠ l := fun z => by rw [← z, ht] at hl; cases hl
        have ht' : upd H l (.lst []) t = some (.lst [.ref a, .int p, .int q]) := by rw [upd_ne ntl]; exact ht
        have hns' : SqL K (upd H l (.lst [])) a (ns.map V.int) := (Same.new hl).seqL hns
        have bl : But t H (upd H l (.lst [])) := But.of (Same.new hl)
        refine ⟨.list (ns.map .int), .list [], den_lints.mpr ⟨a, rfl, hns'⟩, den_list.mpr ⟨l, [], rfl, SqL.of upd_same, denAll_nil.mpr rfl⟩, noDict_ints ns, rfl, shaped_ints ns, rfl, _, rfl, ?_⟩
        refine ite2 (fun c3 => ?_) (fun c3 => ?_)
        · have hpos : 0 < ns.length := by
            cases ns with
            | nil => simp [PyData.eqv, PyData.eqvAll] at c3
            | cons _ _ => simp
          have hlt : (p * 3 % (ns.length : Int)).toNat < ns.length := by
            have := Int.emod_nonneg (p * 3) (show (ns.length : Int) ≠ 0 by omega)
            have := Int.emod_lt_of_pos (p * 3) (show (0 : Int) < ns.length by omega)
            omega
          have hat : atI (ns.map V.int) (p * 3 % ((ns.map V.int).length : Int)) = some (.int (ns[(p * 3 % (ns.length : Int)).toNat])) := by
            have h1 : (ns.map V.int)[(p * 3 % (ns.length : Int)).toNat]? = some (.int (ns[(p * 3 % (ns.length : Int)).toNat])) := by rw [List.getElem?_map, List.getElem?_eq_getElem hlt]; rfl
            have h2 := atI_nat h1
            rw [List.length_map]
            rwa [Int.toNat_of_nonneg (Int.emod_nonneg _ (by omega))] at h2
          refine ⟨_, rfl, t, _, 0, .ref a, rfl, rfl, SqL.of ht', rfl, _, rfl, _, _, rfl, rfl, .inr ⟨by decide, by decide⟩, _, rfl, t, _, 0, .ref a, rfl, rfl, SqL.of ht', rfl, a, _, rfl, .inl hns', _, _, rfl, rfl, (show (0 : Int) < ((ns.map V.int).length : Int) by rw [List.length_map]; omega), a, _, _, _, rfl, rfl, hns', hat, _, _, rfl, rfl, (show (0 : Int) < _ by decide), _, rfl, _, _, rfl, rfl, .inr ⟨by decide, by decide⟩, _, _, rfl, rfl, ?_⟩
          refine ⟨_, rfl, _, _, rfl, rfl, _, rfl, t, _, _, 1, rfl, rfl, ht', rfl, ?_⟩
          refine ⟨_, rfl, _, rfl, _, _, rfl, fun r => ⟨_, rfl, t, _, _, 2, rfl, rfl, upd_same, rfl, ?_⟩⟩
          refine ⟨_, rfl, t, _, 2, .int r, rfl, rfl, SqL.of upd_same, rfl, _, rfl, _, _, rfl, rfl, hm1, ?_⟩
          refine ⟨_, rfl, t, _, 2, .int r, rfl, rfl, SqL.of upd_same, rfl, _, rfl, _, _, rfl, rfl, ⟨hm1, hm2⟩, _, rfl, t, _, _, 2, rfl, rfl, upd_same, rfl, ?_⟩
          exact ⟨_, rfl, k _ _ (Int.emod_nonneg _ (by omega)) (Int.emod_lt_of_pos _ hm1) (bl.trans (But.at.trans (But.at.trans But.at))) ⟨⟨p + 1, r / m, by omega, upd_same⟩, tape_upd (p := p + 1) (q := r) upd_same (tape_upd (p := p + 1) (q := q) upd_same (tape_upd ht' hns'))⟩⟩
        · show _
          refine ⟨_, rfl, _, _, rfl, rfl, _, rfl, t, _, _, 1, rfl, rfl, ht', rfl, ?_⟩
          refine ⟨_, rfl, _, rfl, _, _, rfl, fun r => ⟨_, rfl, t, _, _, 2, rfl, rfl, upd_same, rfl, ?_⟩⟩
          refine ⟨_, rfl, t, _, 2, .int r, rfl, rfl, SqL.of upd_same, rfl, _, rfl, _, _, rfl, rfl, hm1, ?_⟩
          refine ⟨_, rfl, t, _, 2, .int r, rfl, rfl, SqL.of upd_same, rfl, _, rfl, _, _, rfl, rfl, ⟨hm1, hm2⟩, _, rfl, t, _, _, 2, rfl, rfl, upd_same, rfl, ?_⟩
          exact ⟨_, rfl, k _ _ (Int.emod_nonneg _ (by omega)) (Int.emod_lt_of_pos _ hm1) (bl.trans (But.at.trans (But.at.trans But.at))) ⟨⟨p + 1, r / m, by omega, upd_same⟩, tape_upd (p := p + 1) (q := r) upd_same (tape_upd (p := p + 1) (q := q) upd_same (tape_upd ht' hns'))⟩⟩
    · show _
      refine ⟨_, rfl, t, _, 2, .int q, rfl, rfl, SqL.of ht, rfl, _, rfl, _, _, rfl, rfl, hm1, ?_⟩
      refine ⟨_, rfl, t, _, 2, .int q, rfl, rfl, SqL.of ht, rfl, _, rfl, _, _, rfl, rfl, ⟨hm1, hm2⟩, _, rfl, t, _, _, 2, rfl, rfl, ht, rfl, ?_⟩
      exact ⟨_, rfl, k _ _ (Int.emod_nonneg _ (by omega)) (Int.emod_lt_of_pos _ hm1) (But.at) ⟨⟨p, q / m, by omega, upd_same⟩, tape_upd ht hns⟩⟩
end
end Ab
set_option Elab.async false
set_option linter.all false
set_option maxRecDepth 100000
namespace Ab
open PySem L2
theorem rises_of (n : Int) : ∀ (l : List Int) (last : Int), (∀ x ∈ l, last < x) → l.Pairwise (· < ·) → (∀ x ∈ l, x < n) → risesP n last (l.map .int) = true
  | [], _, _, _, _ => rfl
  | x :: r, last, h1, h2, h3 => by
    rw [List.map_cons, risesP_cons_int]
    have h2' := List.pairwise_cons.mp h2
    rw [decide_eq_true (h1 x (List.mem_cons_self ..)), decide_eq_true (h3 x (List.mem_cons_self ..)), rises_of n r x h2'.1 h2'.2 (fun y hy => h3 y (List.mem_cons_of_mem _ hy))]
    rfl
theorem work_of {n : Int} {l : List Int} (h0 : l ≠ []) (h1 : ∀ x ∈ l, 0 ≤ x ∧ x < n) (h2 : l.Pairwise (· < ·)) : isWork n (workD l) = true := by
  have e : isWork n (workD l) = (!(l.map PyData.int).isEmpty && risesP n (-1) (l.map .int)) := rfl
  rw [e, rises_of n l (-1) (fun x hx => by have := (h1 x hx).1; omega) h2 (fun x hx => (h1 x hx).2)]
  cases l with
  | nil => exact absurd rfl h0
  | cons _ _ => rfl
theorem rises_parts (n : Int) : ∀ (l : List Int) (last : Int), risesP n last (l.map .int) = true → l.Pairwise (· < ·) ∧ ∀ x ∈ l, last < x ∧ x < n
  | [], _, _ => ⟨.nil, fun _ h => by cases h⟩
  | x :: r, last, h => by
    rw [List.map_cons, risesP_cons_int, Bool.and_eq_true, Bool.and_eq_true] at h
    obtain ⟨⟨h1, h2⟩, h3⟩ := h
    have h1 := of_decide_eq_true h1
    have h2 := of_decide_eq_true h2
    obtain ⟨i1, i2⟩ := rises_parts n r x h3
    refine ⟨List.pairwise_cons.mpr ⟨fun y hy => (i2 y hy).1, i1⟩, fun y hy => ?_⟩
    rcases List.mem_cons.mp hy with rfl | hy
    · exact ⟨h1, h2⟩
    · exact ⟨by have := (i2 y hy).1; omega, (i2 y hy).2⟩
theorem work_parts {n : Int} {l : List Int} (h : isWork n (workD l) = true) : l ≠ [] ∧ (∀ x ∈ l, 0 ≤ x ∧ x < n) ∧ l.Pairwise (· < ·) := by
  have e : (!(l.map PyData.int).isEmpty && risesP n (-1) (l.map .int)) = true := h
  rw [Bool.and_eq_true] at e
  obtain ⟨h1, h2⟩ := rises_parts n l (-1) e.2
  refine ⟨fun z => by rw [z] at e; simp at e, fun x hx => ⟨by have := (h2 x hx).1; omega, (h2 x hx).2⟩, h1⟩
theorem short_from {n : Int} : ∀ (l : List Int) (lo : Int), lo ≤ n → (∀ x ∈ l, lo ≤ x ∧ x < n) → l.Pairwise (· < ·) → (l.length : Int) ≤ n - lo
  | [], lo, h, _, _ => by simp; omega
  | x :: r, lo, h, h1, h2 => by
    have h2' := List.pairwise_cons.mp h2
    have hx := h1 x (List.mem_cons_self ..)
    have := short_from r (x + 1) (by omega) (fun y hy => ⟨by have := h2'.1 y hy; omega, (h1 y (List.mem_cons_of_mem _ hy)).2⟩) h2'.2
    rw [List.length_cons]
    omega
theorem work_short {n : Int} {l : List Int} (hn : 0 ≤ n) (h1 : ∀ x ∈ l, 0 ≤ x ∧ x < n) (h2 : l.Pairwise (· < ·)) : (l.length : Int) ≤ n := by
  have := short_from l 0 hn h1 h2
  omega
theorem upto_mem {n : Nat} {x : Int} : x ∈ upto n ↔ 0 ≤ x ∧ x < n := by
  unfold upto
  rw [List.mem_map]
  constructor
  · rintro ⟨i, hi, rfl⟩
    have := List.mem_range.mp hi
    show 0 ≤ (i : Int) ∧ (i : Int) < n
    omega
  · rintro ⟨h1, h2⟩
    exact ⟨x.toNat, List.mem_range.mpr (by omega), by show ((x.toNat : Nat) : Int) = x; omega⟩
theorem upto_rises (n : Nat) : (upto n).Pairwise (· < ·) := by
  unfold upto
  rw [List.pairwise_map]
  refine List.pairwise_lt_range.imp fun h => ?_
  show ((_ : Nat) : Int) < ((_ : Nat) : Int)
  omega
theorem twoS_good {a b : Nat} : (twoS a b).Pairwise (· < ·) ∧ twoS a b ≠ [] ∧ ∀ x ∈ twoS a b, x = (a : Int) ∨ x = (b : Int) := by
  unfold twoS
  split
  · exact ⟨by simp, by simp, fun x hx => by simp at hx; exact .inl hx⟩
  · split
    · refine ⟨?_, by simp, fun x hx => by simpa using hx⟩
      rw [List.pairwise_cons]
      exact ⟨fun y hy => by simp at hy; omega, by simp⟩
    · refine ⟨?_, by simp, fun x hx => by simp at hx; exact hx.symm⟩
      rw [List.pairwise_cons]
      exact ⟨fun y hy => by simp at hy; omega, by simp⟩
end Ab
set_option Elab.async false
set_option linter.all false
set_option maxRecDepth 100000
namespace Ab
open PySem L2
section
variable {P : Program} {w : World} {K : PySem.W.Frag} {mg : Str → Option Value} {base : Heap}
theorem op_eqDK {X : Cx} (hK : X.K = K) (hu : X.A.units + 64 < cLine) : OpR X (compareOp .Eq) (fun x y H Q => ∃ d e, Den K H d x ∧ Den K H e y ∧ noDict d = true ∧ noDict e = true ∧ SeqAt.shaped d = true ∧ SeqAt.shaped e = true ∧ Q (.bl (PyData.eqv d e)) H) := by subst hK; exact op_eqD hu
theorem eqvAll_ints : ∀ (a b : List Int), PyData.eqvAll (a.map .int) (b.map .int) = decide (a = b)
  | [], [] => by simp [PyData.eqvAll]
  | [], _ :: _ => by simp [PyData.eqvAll]
  | _ :: _, [] => by simp [PyData.eqvAll]
  | x :: r, y :: s => by
    rw [List.map_cons, List.map_cons, PyData.eqvAll, eqvAll_ints r s, PyData.eqv]
    by_cases h : x = y
    · by_cases h2 : r = s
      · simp [h, h2]
      · simp [h, h2]
    · simp [h]
theorem eqv_lints (a b : List Int) : PyData.eqv (.list (a.map .int)) (.list (b.map .int)) = decide (a = b) := by rw [PyData.eqv, eqvAll_ints]
theorem eqv_tints (a b : List Int) : PyData.eqv (.tuple (a.map .int)) (.tuple (b.map .int)) = decide (a = b) := by rw [PyData.eqv, eqvAll_ints]
theorem sz1 (x : V) : [x].length ≤ sizeLine := by rw [sizeLine_eq]; simp
theorem sz2 (x y : V) : [x, y].length ≤ sizeLine := by rw [sizeLine_eq]; simp
theorem size1 {n : Nat} (h : n ≤ 1000) : n ≤ sizeLine := by rw [sizeLine_eq]; omega
def spWork (K : PySem.W.Frag) : Sp := fun vs H Q _ => ∃ (t a : Addr) (ns : List Int) (n kd : Int), vs = [.ref t, .int n, .int kd] ∧ Tape K H t a ns ∧ 1 ≤ n ∧ n ≤ 6 ∧ ∀ l p H', isWork n (workD l) = true → But t H H' → Tape K H' t a ns → SqT K H' p (l.map V.int) → Q (.ref p) H'
theorem scWork : FnScope ["tape", "hands", "kind", "first", "often", "some"] ["tape", "hands", "kind"] (defScope sWork) := ⟨rfl, rfl, rfl, by decide +kernel, rfl, by decide +kernel, by decide +kernel⟩
theorem ok_work {f fD : Addr} {fd fdD : FuncData} (G : Fn K mg "_law_b_work" sWork ["tape", "hands", "kind"] f fd) (B : Bl mg) (GD : Fn K mg "_law_b_digit" sDigit ["tape", "many"] fD fdD) (OD : FnOk P w K mg base CX0 2 fD fdD ["tape", "many"] (spDigit K)) : FnOk P w K mg base CX0 3 f fd ["tape", "hands", "kind"] (spWork K) := by
  refine G.fn.ok scWork (fun vs H Q E h => ?_) (fun cdv A outer s H vs Q E hr h => ?_)
  · obtain ⟨t, a, ns, n, kd, rfl, _⟩ := h
    rfl
  · obtain ⟨t, a, ns, n, kd, rfl, hT, hn1, hn6, k⟩ := h
    refine ⟨_, pss_cons (ps_set (i := 3) scWork.nd rfl (Or.inr rfl) (pe_fn GD OD hr rfl (pa_cons (pv 0) (pa_cons (pv 1) pa_nil))))
      (pss_cons (ps_if (pt_cmpR op_eq (pv 2) pe_int (nomark _)) (pss_one (ps_ret (pe_tup (pa_cons (pv 3) pa_nil)))) pss_nil)
      (pss_cons (ps_if (pt_cmpR op_eq (pv 2) pe_int (nomark _)) (pss_one (ps_ret (pe_callTy call_tuple_of rfl B.tuple b_tuple (pa_cons (pe_callB (call_sorted_set rfl) rfl B.sorted b_sorted (pa_cons (pe_callTy (call_set2 rfl) rfl B.set b_set (pa_cons (pe_lst (pa_cons (pv 3) (pa_cons (pe_op op_mod (pe_op op_add (pv 3) pe_int) (pv 1)) pa_nil))) pa_nil)) pa_nil)) pa_nil)))) pss_nil)
      (pss_cons (ps_if (pt_cmpR op_eq (pv 2) pe_int (nomark _)) (pss_one (ps_ret (pe_callTy (call_tuple_rng rfl) rfl B.tuple b_tuple (pa_cons (pe_callTy call_range1 rfl B.range b_range (pa_cons (pv 1) pa_nil)) pa_nil)))) pss_nil)
      (pss_cons (ps_set (i := 4) scWork.nd rfl (Or.inr rfl) (pe_op op_add pe_int (pe_fn GD OD hr rfl (pa_cons (pv 0) (pa_cons pe_int pa_nil)))))
      (pss_cons (ps_set (i := 5) scWork.nd rfl (Or.inr rfl)
        (pe_comp (own := ["hand"]) (fr := [3, 4, 0]) (frn := ["first", "often", "tape"]) (compOk_of (defScope sWork) ["tape", "hands", "kind", "first", "often", "some"] rfl rfl (by decide +kernel)) rfl (pi_range1 rfl B.range (pa_cons (pv 1) pa_nil))
          (fun _ _ _ _ => pg_name (i := 0) (show (["hand", "first", "often", "tape"] : List Str).Nodup by decide +kernel) rfl (Or.inl rfl))
          (fun _ _ _ _ => pf_one (PW.pt (pw_or (pt_cmpR op_eq (pv 0) (pv 1) (nomark _)) (pw_or1 (pt_cmpR op_eq (pe_fn GD OD hr rfl (pa_cons (pv 3) (pa_cons (pv 2) pa_nil))) pe_int (nomark _))))))
          (fun _ _ _ _ => pv 0)))
      (pss_cons (ps_if (PW.pt (pw_and (pt_cmpR op_eq (pv 2) pe_int (nomark _)) (pw_and1 (pt_cmpR op_lt (pe_callB call_len_seq rfl B.len b_len (pa_cons (pv 5) pa_nil)) (pv 1) (nomark _)))))
        (pss_one (ps_set (i := 5) scWork.nd rfl (Or.inr rfl)
          (pe_comp (own := ["hand"]) (fr := [5]) (frn := ["some"]) (compOk_of (defScope sWork) ["tape", "hands", "kind", "first", "often", "some"] rfl rfl (by decide +kernel)) rfl (pi_list (pv 5))
            (fun _ _ _ _ => pg_name (i := 0) (show (["hand", "some"] : List Str).Nodup by decide +kernel) rfl (Or.inl rfl))
            (fun _ _ _ _ => pf_one (PW.pt (pw_or (pt_cmpR op_gt (pv 0) pe_int (nomark _)) (pw_or1 (pt_cmpR (op_eqDK (K := K) rfl hr.u64) (pv 1) (pe_lst (pa_cons pe_int pa_nil)) (nomark _))))))
            (fun _ _ _ _ => pv 0)))) pss_nil)
      (pss_one (ps_ret (pe_callTy call_tuple_of rfl B.tuple b_tuple (pa_cons (pv 5) pa_nil)))))))))), ?_⟩
    refine ⟨_, rfl, _, rfl, t, a, ns, n, rfl, hT, by omega, by omega, fun first H1 hf0 hf1 b1 T1 => ?_⟩
    obtain ⟨fn, rfl⟩ : ∃ fn : Nat, first = fn := ⟨first.toNat, by omega⟩
    obtain ⟨m, rfl⟩ : ∃ m : Nat, n = m := ⟨n.toNat, by omega⟩
    refine ⟨_, rfl, rfl, _, rfl, ?_⟩
    refine ite2 (fun c1 => ?_) (fun c1 => ?_)
    · refine ⟨_, rfl, sz1 _, fun p hp => ?_⟩
      refine k [(fn : Int)] p _ (work_of (by simp) (fun x hx => ?_) (by simp)) (b1.trans (But.of (Same.new hp))) (T1.same (Same.new hp)) (SqT.of upd_same)
      rw [List.mem_singleton] at hx
      omega
    refine ⟨_, rfl, rfl, _, rfl, ?_⟩
    refine ite2 (fun c2 => ?_) (fun c2 => ?_)
    · have hmod0 : 0 ≤ ((fn : Int) + 1) % (m : Int) := Int.emod_nonneg _ (by omega)
      have hmod1 : ((fn : Int) + 1) % (m : Int) < m := Int.emod_lt_of_pos _ (by omega)
      have hg : ∃ g : Nat, ((fn : Int) + 1) % (m : Int) = g := ⟨(((fn : Int) + 1) % (m : Int)).toNat, by omega⟩
      obtain ⟨g, hg⟩ := hg
      refine ⟨_, rfl, _, rfl, _, _, rfl, rfl, _, rfl, _, _, rfl, rfl, (show (0 : Int) < (m : Int) by omega), sz2 _ _, fun l hl => ?_⟩
      rw [hg] at hmod0 hmod1
      refine ⟨l, fn, g, rfl, SqL.of (by rw [upd_same]; show some (HO.lst [V.int (fn : Int), V.int (((fn : Int) + 1) % (m : Int))]) = _; rw [hg]), by omega, by omega, fun p hp => ⟨p, fn, g, rfl, upd_same, by omega, by omega, fun q hq => ⟨q, _, rfl, .inl ⟨SqL.of upd_same, fun r hr2 => ?_⟩⟩⟩⟩
      have sm := ((Same.new (o := .lst [.int (fn : Int), .int (((fn : Int) + 1) % (m : Int))]) hl).trans ((Same.new hp).trans ((Same.new hq).trans (Same.new (o := .tup ((twoS fn g).map V.int)) hr2))))
      obtain ⟨w1, w2, w3⟩ := twoS_good (a := fn) (b := g)
      refine k (twoS fn g) r _ (work_of w2 (fun x hx => ?_) w1) (b1.trans (But.of sm)) (T1.same sm) (SqT.of upd_same)
      rcases w3 x hx with e | e <;> omega
    refine ⟨_, rfl, rfl, _, rfl, ?_⟩
    refine ite2 (fun c3 => ?_) (fun c3 => ?_)
    · refine ⟨_, rfl, (m : Int), rfl, fun p hp => ⟨p, m, rfl, upd_same, by omega, fun q H' s' hq => ?_⟩⟩
      have sm := (Same.new hp).trans s'
      refine k (upto m) q H' (work_of (fun z => ?_) (fun x hx => upto_mem.mp hx) (upto_rises m)) (b1.trans (But.of sm)) (T1.same sm) hq
      have := upto_length m
      rw [z] at this
      simp at this
      omega
    refine ⟨_, rfl, t, a, ns, 3, rfl, T1, by decide, by decide, fun r H2 hr0 hr1 b2 T2 => ⟨_, _, rfl, rfl, ?_⟩⟩
    have b02 := b1.trans b2
    refine ⟨_, rfl, (m : Int), rfl, by omega, by omega, comp_range (lo := 0) (n := ((m : Int)).toNat) (fun σ => ∃ v, σ = [v, some (.int (fn : Int)), some (.int (2 + r)), some (.ref t)])
      (fun i ys H3 => ∃ l : List Int, ys = l.map V.int ∧ l.Pairwise (· < ·) ∧ (∀ x ∈ l, 0 ≤ x ∧ x < i) ∧ (fn < i → l ≠ []) ∧ But t H H3 ∧ Tape K H3 t a ns) (size1 (by omega)) ⟨none, rfl⟩
      ⟨[], rfl, .nil, fun _ h => (List.not_mem_nil h).elim, fun h => (Nat.not_lt_zero _ h).elim, b02, T2⟩ ?_ ?_ ?_⟩
    · rintro i ys H3 ⟨l, rfl, h1, h2, _⟩
      rw [List.length_map]
      have := work_short (n := (i : Int)) (by omega) h2 h1
      omega
    · rintro i ys σ H3 hi ⟨v, rfl⟩ ⟨l, rfl, h1, h2, h3, b3, T3⟩ hz
      have hnext : (l ++ [(i : Int)]).Pairwise (· < ·) ∧ ∀ x ∈ l ++ [(i : Int)], 0 ≤ x ∧ x < ((i + 1 : Nat) : Int) := by
        refine ⟨List.pairwise_append.mpr ⟨h1, by simp, fun x hx y hy => ?_⟩, fun x hx => ?_⟩
        · rw [List.mem_singleton] at hy
          have := (h2 x hx).2
          omega
        · rcases List.mem_append.mp hx with hx | hx
          · have := h2 x hx
            omega
          · rw [List.mem_singleton] at hx
            omega
      refine ⟨_, rfl, _, rfl, rfl, _, rfl, ?_⟩
      refine ite2 (fun c4 => ?_) (fun c4 => ?_)
      · refine iteT ?_
        refine ⟨_, rfl, hz, ⟨_, rfl⟩, l ++ [(i : Int)], by simp, hnext.1, hnext.2, fun _ => by simp, b3, T3⟩
      · have c4' : ¬ (fn : Int) = i := fun z => c4 (by simp [z])
        refine ⟨_, rfl, _, rfl, t, a, ns, 2 + r, rfl, T3, by omega, by omega, fun r4 H4 hr40 hr41 b4 T4 => ⟨rfl, _, rfl, ?_⟩⟩
        refine ite2 (fun c5 => ?_) (fun c5 => ?_)
        · refine ⟨_, rfl, hz, ⟨_, rfl⟩, l ++ [(i : Int)], by simp, hnext.1, hnext.2, fun _ => by simp, b3.trans b4, T4⟩
        · refine ⟨⟨_, rfl⟩, l, rfl, h1, fun x hx => ?_, fun h => h3 (by omega), b3.trans b4, T4⟩
          have := h2 x hx
          omega
    · rintro ys H3 ⟨l, rfl, h1, h2, h3, b3, T3⟩ p hp
      have hl0 : l ≠ [] := h3 (by omega)
      have h2' : ∀ x ∈ l, 0 ≤ x ∧ x < (m : Int) := fun x hx => by have := h2 x hx; omega
      have hshort := work_short (by omega) h2' h1
      have sp := Same.new (o := .lst (l.map V.int)) hp
      have T3' := T3.same sp
      have b3' := b3.trans (But.of sp)
      have ntp : p ≠ t := T3.ne hp
      have hpl : upd H3 p (.lst (l.map V.int)) p = some (.lst (l.map V.int)) := upd_same
      generalize hH5 : upd H3 p (.lst (l.map V.int)) = H5 at T3' b3' hpl ⊢
      refine ⟨_, rfl, rfl, _, rfl, ?_⟩
      refine ite2 (fun c4 => ?_) (fun c4 => ?_)
      · refine ⟨_, rfl, p, _, rfl, .inl (SqL.of hpl), _, rfl, _, _, rfl, rfl, _, rfl, ?_⟩
        refine ite2 (fun c5 => ?_) (fun c5 => ?_)
        · refine ⟨_, rfl, p, rfl, ⟨_, SqL.of hpl⟩, comp_list (K := K) (a := p) (xs := l.map V.int) (fun σ => ∃ v, σ = [v, some (.ref p)]) (fun i ys H6 => Same H5 H6 ∧ ys = ((l.take i).filter fun h => decide (0 < h) || decide (l = [0])).map V.int) (size1 (by rw [List.length_map]; omega)) ⟨none, rfl⟩ ⟨Same.refl _, rfl⟩ ?_ ?_ ?_ ?_⟩
          · rintro i ys H6 ⟨_, rfl⟩
            rw [List.length_map]
            exact Nat.le_trans (List.length_filter_le _ _) (by rw [List.length_take]; omega)
          · rintro i ys H6 ⟨s6, _⟩
            exact s6.seqL (SqL.of hpl)
          · rintro i ys σ x H6 hx ⟨v, rfl⟩ ⟨s6, rfl⟩ hz
            rw [List.getElem?_map] at hx
            obtain ⟨h, hh, rfl⟩ : ∃ h, l[i]? = some h ∧ V.int h = x := by
              cases q : l[i]? with
              | none => rw [q] at hx; cases hx
              | some h => rw [q] at hx; exact ⟨h, rfl, Option.some.inj hx⟩
            have etake : l.take (i + 1) = l.take i ++ [h] := by rw [List.take_succ, hh]; rfl
            refine ⟨_, rfl, _, _, rfl, rfl, _, rfl, ?_⟩
            refine ite2 (fun c6 => ?_) (fun c6 => ?_)
            · refine iteT ?_
              refine ⟨_, rfl, hz, ⟨_, rfl⟩, s6, ?_⟩
              rw [etake, List.filter_append, List.map_append]
              simp [of_decide_eq_true c6]
            · refine ⟨_, rfl, sz1 _, fun q hq => ?_⟩
              have s7 := s6.trans (Same.new (o := .lst [V.int 0]) hq)
              refine ⟨.list (l.map .int), .list ([0].map .int), den_lints.mpr ⟨p, rfl, s7.seqL (SqL.of hpl)⟩, den_lints.mpr ⟨q, rfl, SqL.of upd_same⟩, noDict_ints _, noDict_ints _, shaped_ints _, shaped_ints _, _, rfl, ?_⟩
              rw [eqv_lints]
              refine ite2 (fun c7 => ?_) (fun c7 => ?_)
              · refine ⟨_, rfl, hz, ⟨_, rfl⟩, s7, ?_⟩
                rw [etake, List.filter_append, List.map_append]
                simp [of_decide_eq_true c7]
              · refine ⟨⟨_, rfl⟩, s7, ?_⟩
                rw [etake, List.filter_append, List.map_append]
                have c6' : ¬ 0 < h := fun z => c6 (decide_eq_true z)
                have c7' : ¬ l = [0] := fun z => c7 (decide_eq_true z)
                simp [c6', c7']
          · rintro ys H6 ⟨s6, rfl⟩ q hq
            rw [List.length_map, List.take_length]
            have hsub : (l.filter fun h => decide (0 < h) || decide (l = [0])).Sublist l := List.filter_sublist
            refine ⟨_, rfl, q, _, rfl, .inl ⟨SqL.of upd_same, fun r5 hr5 => ?_⟩⟩
            have sm := s6.trans ((Same.new (o := .lst ((l.filter fun h => decide (0 < h) || decide (l = [0])).map V.int)) hq).trans (Same.new (o := .tup ((l.filter fun h => decide (0 < h) || decide (l = [0])).map V.int)) hr5))
            refine k (l.filter fun h => decide (0 < h) || decide (l = [0])) r5 _ (work_of ?_ (fun x hx => h2' x (hsub.mem hx)) (h1.sublist hsub)) (b3'.trans (But.of sm)) (T3'.same sm) (SqT.of upd_same)
            intro z
            rw [List.filter_eq_nil_iff] at z
            by_cases hl : l = [0]
            · have := z 0 (by rw [hl]; simp)
              simp [hl] at this
            · apply hl
              have hall : ∀ x ∈ l, x = 0 := fun x hx => by
                have hz := z x hx
                have := (h2' x hx).1
                simp [hl] at hz
                omega
              match l, hl0, h1, hall with
              | [x], _, _, ha => rw [ha x (List.mem_singleton.mpr rfl)]
              | x :: y :: r, _, hp, ha =>
                exfalso
                have h3 := (List.pairwise_cons.mp hp).1 y (List.mem_cons_self ..)
                rw [ha x (List.mem_cons_self ..), ha y (List.mem_cons_of_mem _ (List.mem_cons_self ..))] at h3
                omega
        · refine ⟨_, rfl, p, _, rfl, .inl ⟨SqL.of hpl, fun q hq => ?_⟩⟩
          exact k l q _ (work_of hl0 h2' h1) (b3'.trans (But.of (Same.new hq))) (T3'.same (Same.new hq)) (SqT.of upd_same)
      · refine iteF ?_
        refine ⟨_, rfl, p, _, rfl, .inl ⟨SqL.of hpl, fun q hq => ?_⟩⟩
        exact k l q _ (work_of hl0 h2' h1) (b3'.trans (But.of (Same.new hq))) (T3'.same (Same.new hq)) (SqT.of upd_same)
end
end Ab
set_option Elab.async false
set_option linter.all false
set_option maxRecDepth 100000
namespace Ab
open PySem L2
def Far (K : PySem.W.Frag) (a f : Addr) (ns : List Int) : Prop := a ≠ f ∨ ∀ H, SqL K H a (ns.map V.int)
theorem far_of {K : PySem.W.Frag} {H : Hp} {a f : Addr} {ns : List Int} (h : SqL K H a (ns.map V.int)) (hf : H f = none) : Far K a f ns := by
  rcases h with (h | ⟨o, h⟩) | h
  · exact .inl fun z => by rw [z, hf] at h; cases h
  · exact .inl fun z => by rw [z, hf] at h; cases h
  · exact .inr fun _ => .inr h
theorem Tape.wr {K : PySem.W.Frag} {H H' : Hp} {t a f : Addr} {ns : List Int} (T : Tape K H t a ns) (b : But f H H') (n : t ≠ f) (F : Far K a f ns) : Tape K H' t a ns := by
  obtain ⟨⟨p, q, h1, h2⟩, h3⟩ := T
  refine ⟨⟨p, q, h1, b t _ n h2⟩, ?_⟩
  rcases F with F | F
  · exact b.seqL F h3
  · exact F H'
theorem book_of {n : Int} {ws : List (List Int)} (h1 : 1 ≤ n) (h2 : n ≤ 6) (h3 : ws.length ≤ 12) (h4 : ∀ l ∈ ws, isWork n (workD l) = true) : isBook (bookD n ws) = true := by
  show (decide (1 ≤ n) && decide (n ≤ 6) && decide ((ws.map workD).length ≤ 12) && (ws.map workD).all (isWork n)) = true
  rw [decide_eq_true h1, decide_eq_true h2, List.length_map, decide_eq_true h3, Bool.true_and, Bool.true_and, Bool.true_and, List.all_eq_true]
  intro d hd
  obtain ⟨l, hl, rfl⟩ := List.mem_map.mp hd
  exact h4 l hl
section
variable {P : Program} {w : World} {K : PySem.W.Frag} {mg : Str → Option Value} {base : Heap}
theorem den_bookI {H : Hp} {n : Int} {ws : List (List Int)} {a b : Addr} {ys : List V} (h1 : SqT K H a [.int n, .ref b]) (h2 : SqT K H b ys) (h3 : DenAll K H (ws.map workD) ys) : Den K H (bookD n ws) (.ref a) :=
  den_tuple.mpr ⟨a, _, rfl, h1, denAll_cons.mpr ⟨_, _, rfl, den_int.mpr rfl, denAll_cons.mpr ⟨_, _, rfl, den_tuple.mpr ⟨b, ys, rfl, h2, h3⟩, denAll_nil.mpr rfl⟩⟩⟩
def spBook (K : PySem.W.Frag) : Sp := fun vs H Q _ => ∃ (t a : Addr) (ns : List Int), vs = [.ref t, .int 6, .int 12] ∧ Tape K H t a ns ∧ ∀ n ws p H', isBook (bookD n ws) = true → But t H H' → Tape K H' t a ns → Den K H' (bookD n ws) (.ref p) → Q (.ref p) H'
theorem scBook : FnScope ["tape", "hands", "works", "many", "kind", "found", "k", "sort"] ["tape", "hands", "works"] (defScope sBook) := ⟨rfl, rfl, rfl, by decide +kernel, rfl, by decide +kernel, by decide +kernel⟩
theorem ok_book {f fD fK : Addr} {fd fdD fdK : FuncData} (G : Fn K mg "_law_b_book" sBook ["tape", "hands", "works"] f fd) (B : Bl mg) (GD : Fn K mg "_law_b_digit" sDigit ["tape", "many"] fD fdD) (OD : FnOk P w K mg base CX0 2 fD fdD ["tape", "many"] (spDigit K))
    (GK : Fn K mg "_law_b_work" sWork ["tape", "hands", "kind"] fK fdK) (OK : FnOk P w K mg base CX0 3 fK fdK ["tape", "hands", "kind"] (spWork K)) : FnOk P w K mg base CX0 4 f fd ["tape", "hands", "works"] (spBook K) := by
  refine G.fn.ok scBook (fun vs H Q E h => ?_) (fun cdv A outer s H vs Q E hr h => ?_)
  · obtain ⟨t, a, ns, rfl, _⟩ := h
    rfl
  · obtain ⟨t, a, ns, rfl, hT, k⟩ := h
    have hr2 : Room 2 _ := hr.mono (by decide)
    refine ⟨_, pss_cons (ps_set (i := 3) scBook.nd rfl (Or.inl rfl) (pe_op op_add pe_int (pe_fn GD OD hr2 rfl (pa_cons (pv 0) (pa_cons (pv 1) pa_nil)))))
      (pss_cons (ps_set (i := 4) scBook.nd rfl (Or.inl rfl) (pe_fn GD OD hr2 rfl (pa_cons (pv 0) (pa_cons pe_int pa_nil))))
      (pss_cons (ps_set (i := 5) scBook.nd rfl (Or.inl rfl) (pe_lst pa_nil))
      (pss_cons (ps_for PassesOwn.never rfl (pi_range1 rfl B.range (pa_cons (pe_fn GD OD hr2 rfl (pa_cons (pv 0) (pa_cons (pe_op op_add (pv 2) pe_int) pa_nil))) pa_nil)) (pg_name (i := 6) scBook.nd rfl (Or.inl rfl))
        (pss_cons (ps_set (i := 7) scBook.nd rfl (Or.inl rfl) (pv 4))
        (pss_cons (ps_if (pt_cmpR op_gt (pv 4) pe_int (nomark _)) (pss_one (ps_set (i := 7) scBook.nd rfl (Or.inl rfl) (pe_fn GD OD hr2 rfl (pa_cons (pv 0) (pa_cons pe_int pa_nil))))) pss_nil)
        (pss_one (ps_expr (pe_bm PySem.F.plainAttrs_list PySem.F.slot_list_append PySem.F.type_list_append mt_append (pv 5) (pa_cons (pe_fn GK OK hr rfl (pa_cons (pv 0) (pa_cons (pv 3) (pa_cons (pv 7) pa_nil)))) pa_nil)))))))
      (pss_one (ps_ret (pe_tup (pa_cons (pv 3) (pa_cons (pe_callTy call_tuple_of rfl B.tuple b_tuple (pa_cons (pv 5) pa_nil)) pa_nil)))))))), ?_⟩
    refine ⟨_, rfl, _, rfl, t, a, ns, 6, rfl, hT, by decide, by decide, fun r H1 hr0 hr1 b1 T1 => ⟨_, _, rfl, rfl, ?_⟩⟩
    refine ⟨_, rfl, t, a, ns, 8, rfl, T1, by decide, by decide, fun kd H2 hk0 hk1 b2 T2 => ?_⟩
    refine ⟨size1 (Nat.zero_le _), fun fl hfl => ?_⟩
    have ntf : t ≠ fl := fun z => T2.ne hfl z.symm
    have F : Far K a fl ns := far_of T2.2 hfl
    have s3 := Same.new (o := .lst []) hfl
    have hfl0 : H fl = none := (b1.trans b2).free hfl (Ne.symm ntf)
    have T3 := T2.same s3
    have b03 := b1.trans (b2.trans (But.of s3))
    have hfl3 : upd H2 fl (.lst []) fl = some (.lst []) := upd_same
    generalize hH3 : upd H2 fl (.lst []) = H3 at T3 b03 hfl3 ⊢
    refine ⟨_, rfl, _, rfl, _, _, rfl, rfl, t, a, ns, 13, rfl, T3, by decide, by decide, fun m H4 hm0 hm1 b4 T4 => ?_⟩
    refine ⟨m, rfl, by omega, by omega, for_range (lo := 0) (n := m.toNat) (fun i σ H5 => ∃ (ws : List (List Int)) (xs : List V) (v v2 : Option V), σ = [some (.ref t), some (.int 6), some (.int 12), some (.int (1 + r)), some (.int kd), some (.ref fl), v, v2] ∧ ws.length = i ∧
      (∀ l ∈ ws, isWork (1 + r) (workD l) = true) ∧ H5 fl = some (.lst xs) ∧ DenAll K H5 (ws.map workD) xs ∧ But t H H5 ∧ Tape K H5 t a ns)
      ⟨[], [], none, none, rfl, rfl, fun _ h => (List.not_mem_nil h).elim, b4 fl _ (Ne.symm ntf) hfl3, denAll_nil.mpr rfl, b03.trans b4, T4⟩ ?_ ?_⟩
    · rintro i σ H5 hi ⟨ws, xs, v, v2, rfl, hl, hw, hx, hd, b5, T5⟩
      have hxl : xs.length = i := by rw [denAll_length hd, List.length_map, hl]
      refine ⟨_, rfl, ?_⟩
      refine ⟨_, rfl, _, _, rfl, rfl, _, rfl, ?_⟩
      refine ite2 (fun c1 => ?_) (fun c1 => ?_)
      · refine ⟨_, rfl, t, a, ns, 5, rfl, T5, by decide, by decide, fun r2 H6 hr20 hr21 b6 T6 => ?_⟩
        obtain ⟨⟨p5, q5, h5, ht5⟩, hs5⟩ := id T5
        have hx6 : H6 fl = some (.lst xs) := b6 fl _ (Ne.symm ntf) hx
        have hd6 := b6.denAll ht5 _ _ (noLists_map _ noList_work ws) hd
        refine ⟨_, rfl, .inl ⟨rfl, _, SqL.of hx6⟩, _, rfl, _, rfl, _, rfl, t, a, ns, 1 + r, r2, rfl, T6, by omega, by omega, fun l p H7 hwk b7 T7 hp7 => ?_⟩
        obtain ⟨⟨p6, q6, h6, ht6⟩, hs6⟩ := id T6
        have hx7 : H7 fl = some (.lst xs) := b7 fl _ (Ne.symm ntf) hx6
        have hd7 := b7.denAll ht6 _ _ (noLists_map _ noList_work ws) hd6
        refine ⟨fl, xs, .ref p, rfl, rfl, hx7, by rw [sizeLine_eq]; omega, ?_⟩
        have b8 : But fl H7 (upd H7 fl (.lst (xs ++ [.ref p]))) := But.at
        refine ⟨ws ++ [l], xs ++ [.ref p], _, _, rfl, by rw [List.length_append, hl]; rfl, fun l2 hl2 => ?_, upd_same, ?_, (fun b o nb hb => by rw [upd_ne (fun z => by rw [z, hfl0] at hb; cases hb)]; exact ((b5.trans b6).trans b7) b o nb hb), T7.wr b8 ntf F⟩
        · rcases List.mem_append.mp hl2 with h | h
          · exact hw l2 h
          · rw [List.mem_singleton.mp h]; exact hwk
        · rw [List.map_append]
          refine denAll_append (b8.denAll hx7 _ _ (noLists_map _ noList_work ws) hd7) (denAll_cons.mpr ⟨_, _, rfl, ?_, denAll_nil.mpr rfl⟩)
          exact den_tints.mpr ⟨p, rfl, b8.seqT hx7 hp7⟩
      · show _
        obtain ⟨⟨p5, q5, h5, ht5⟩, hs5⟩ := id T5
        have hx6 : H5 fl = some (.lst xs) := (But.refl t H5) fl _ (Ne.symm ntf) hx
        have hd6 := (But.refl t H5).denAll ht5 _ _ (noLists_map _ noList_work ws) hd
        refine ⟨_, rfl, .inl ⟨rfl, _, SqL.of hx6⟩, _, rfl, _, rfl, _, rfl, t, a, ns, 1 + r, kd, rfl, T5, by omega, by omega, fun l p H7 hwk b7 T7 hp7 => ?_⟩
        obtain ⟨⟨p6, q6, h6, ht6⟩, hs6⟩ := id T5
        have hx7 : H7 fl = some (.lst xs) := b7 fl _ (Ne.symm ntf) hx6
        have hd7 := b7.denAll ht6 _ _ (noLists_map _ noList_work ws) hd6
        refine ⟨fl, xs, .ref p, rfl, rfl, hx7, by rw [sizeLine_eq]; omega, ?_⟩
        have b8 : But fl H7 (upd H7 fl (.lst (xs ++ [.ref p]))) := But.at
        refine ⟨ws ++ [l], xs ++ [.ref p], _, _, rfl, by rw [List.length_append, hl]; rfl, fun l2 hl2 => ?_, upd_same, ?_, (fun b o nb hb => by rw [upd_ne (fun z => by rw [z, hfl0] at hb; cases hb)]; exact ((b5.trans (But.refl t H5)).trans b7) b o nb hb), T7.wr b8 ntf F⟩
        · rcases List.mem_append.mp hl2 with h | h
          · exact hw l2 h
          · rw [List.mem_singleton.mp h]; exact hwk
        · rw [List.map_append]
          refine denAll_append (b8.denAll hx7 _ _ (noLists_map _ noList_work ws) hd7) (denAll_cons.mpr ⟨_, _, rfl, ?_, denAll_nil.mpr rfl⟩)
          exact den_tints.mpr ⟨p, rfl, b8.seqT hx7 hp7⟩
    · rintro σ H5 ⟨ws, xs, v, v2, rfl, hl, hw, hx, hd, b5, T5⟩
      refine ⟨_, rfl, _, rfl, fl, _, rfl, .inl ⟨SqL.of hx, fun q hq => ⟨sz2 _ _, fun p hp => ?_⟩⟩⟩
      have sm := (Same.new (o := .tup xs) hq).trans (Same.new (o := .tup [.int (1 + r), .ref q]) hp)
      refine k (1 + r) ws p _ (book_of (by omega) (by omega) (by omega) hw) (b5.trans (But.of sm)) (T5.same sm) ?_
      refine den_bookI (SqT.of upd_same) ((Same.new hp).seqT (SqT.of upd_same)) (sm.denAll _ _ hd)

end
end Ab
set_option Elab.async false
set_option linter.all false
set_option maxRecDepth 100000
namespace Ab
open PySem L2
theorem text_len : ∀ (ts : List Str) (k : Nat) (acc : Str), (textFrom k acc ts).length ≤ acc.length + piled ts
  | [], _, acc => by show acc.length ≤ acc.length + 0; exact Nat.le_refl _
  | t :: r, k, acc => by
    have ih := text_len r (k + 1) (acc ++ (if k > 0 then ", " else "" : String) ++ t)
    have e : (acc ++ (if k > 0 then ", " else "" : String) ++ t).length ≤ acc.length + 2 + t.length := by
      rw [Str.length_append, Str.length_append]
      have : (((if k > 0 then ", " else "" : String) : Str)).length ≤ 2 := by split <;> decide
      omega
    show (textFrom (k + 1) _ r).length ≤ _
    rw [piled_cons]
    omega
theorem list_len (ts : List Str) : (listText ts).length ≤ 2 + piled ts := by
  unfold listText
  rw [Str.length_append]
  have h := text_len ts 0 "["
  have e1 : ((("[" : String) : Str)).length = 1 := rfl
  have e2 : ((("]" : String) : Str)).length = 1 := rfl
  omega
theorem tuple_len (ts : List Str) : (tupleText ts).length ≤ 3 + piled ts := by
  unfold tupleText
  rw [Str.length_append, Str.length_append]
  have e1 : ((("(" : String) : Str)).length = 1 := rfl
  have e3 : (((if ts.length == 1 then ",)" else ")" : String) : Str)).length ≤ 2 := by split <;> decide
  have e4 : (Str.join ", " ts).length ≤ piled ts := by
    cases ts with
    | nil => decide
    | cons x r => have := join_length_add (x :: r) (by simp); omega
  omega
theorem shownAll_map {α : Type} (f : α → PyData) : ∀ l : List α, PyData.shownAll (l.map f) = l.map fun x => (f x).shown
  | [] => by rw [List.map_nil, PyData.shownAll]; rfl
  | x :: r => by rw [List.map_cons, PyData.shownAll, shownAll_map f r]; rfl
theorem piled_map {α : Type} (f : α → Str) (k : Nat) : ∀ l : List α, (∀ x ∈ l, (f x).length ≤ k) → piled (l.map f) ≤ (k + 2) * l.length
  | [], _ => by rw [List.map_nil, piled_nil]; exact Nat.zero_le _
  | x :: r, h => by
    rw [List.map_cons, piled_cons, List.length_cons, Nat.mul_succ]
    have h1 := h x (List.mem_cons_self ..)
    have h2 := piled_map f k r (fun y hy => h y (List.mem_cons_of_mem _ hy))
    omega
mutual
theorem noDict_of : ∀ d : PyData, d.canLay0 = true → noDict d = true
  | .none, _ => by unfold noDict; rfl
  | .bool _, _ => by unfold noDict; rfl
  | .int _, _ => by unfold noDict; rfl
  | .str _, _ => by unfold noDict; rfl
  | .list ds, h => by unfold noDict; rw [PyData.canLay0] at h; exact noDicts_of ds h
  | .tuple ds, h => by unfold noDict; rw [PyData.canLay0] at h; exact noDicts_of ds h
  | .dict _, h => by rw [PyData.canLay0] at h; cases h
theorem noDicts_of : ∀ ds : List PyData, PyData.canLayAll0 ds = true → noDicts ds = true
  | [], _ => by unfold noDicts; rfl
  | d :: ds, h => by
    rw [PyData.canLayAll0, Bool.and_eq_true] at h
    unfold noDicts
    rw [noDict_of d h.1, noDicts_of ds h.2]
    rfl
end
end Ab
set_option Elab.async false
set_option linter.all false
set_option maxRecDepth 100000
namespace Ab
open PySem L2
theorem of_map {l : List Int} {i : Nat} {v : V} (h : (l.map V.int)[i]? = some v) : ∃ x, l[i]? = some x ∧ V.int x = v := by
  rw [List.getElem?_map] at h
  cases q : l[i]? with
  | none => rw [q] at h; cases h
  | some x => rw [q] at h; exact ⟨x, rfl, Option.some.inj h⟩
section
variable {P : Program} {w : World} {K : PySem.W.Frag} {mg : Str → Option Value} {base : Heap}
variable {fW fH fK fB fNB : Addr} {dW dH dK dB dNB : FuncData}
def spWithin (K : PySem.W.Frag) : Sp := fun vs H Q _ => ∃ (p q : Addr) (la ls : List Int), vs = [.ref p, .ref q] ∧ SqT K H p (la.map V.int) ∧ SqT K H q (ls.map V.int) ∧ la.length ≤ 1000 ∧ ∀ H', Same H H' → Q (.bl (la.all fun h => ls.any (· == h))) H'
theorem scWithin : FnScope ["able", "some"] ["able", "some"] (defScope sWithin) := ⟨rfl, rfl, rfl, by decide +kernel, rfl, by decide +kernel, by decide +kernel⟩
theorem ok_within {f : Addr} {fd : FuncData} (G : Fn K mg "is_within" sWithin ["able", "some"] f fd) (B : Bl mg) : FnOk P w K mg base CX0 1 f fd ["able", "some"] (spWithin K) := by
  refine G.fn.ok scWithin (fun vs H Q E h => ?_) (fun cdv A outer s H vs Q E hr h => ?_)
  · obtain ⟨p, q, la, ls, rfl, _⟩ := h
    rfl
  · obtain ⟨p, q, la, ls, rfl, hp, hq, hl, k⟩ := h
    refine ⟨_, (pss_one (ps_ret (pe_callB (call_all rfl) rfl B.all b_all (pa_cons (pe_comp (own := ["hand"]) (fr := [1]) (frn := ["some"]) (compOk_of (defScope sWithin) ["able", "some"] rfl rfl (by decide +kernel)) rfl (pi_tup (pv 0))
        (fun _ _ _ _ => (pg_name (i := 0) (show (["hand", "some"] : List Str).Nodup by decide +kernel) rfl (Or.inl rfl))) (fun _ _ _ _ => pf_nil)
        (fun _ _ _ _ => (pe_cmpR (op_in_seqK (K := K) rfl) (pv 0) (pv 1) (by with_unfolding_all rfl)))) pa_nil)))), ?_⟩
    refine ⟨_, rfl, p, rfl, ⟨_, hp⟩, comp_fnT (K := K) (a := p) (xs := la.map V.int) (vs := (la.map fun h => ls.any (· == h)).map V.bl) (fun σ => ∃ v, σ = [v, some (.ref q)]) (by rw [List.length_map]; exact hl) (by rw [List.length_map, List.length_map, List.length_map]) hp ⟨none, rfl⟩ ?_ ?_⟩
    · rintro i xv v σ H1 hx hv ⟨v0, rfl⟩ s1 Q' hQ'
      obtain ⟨h, hh, rfl⟩ := of_map hx
      have ev : v = V.bl (ls.any (· == h)) := by
        rw [List.getElem?_map, List.getElem?_map, hh] at hv
        exact (Option.some.inj hv).symm
      refine ⟨_, rfl, _, rfl, q, _, rfl, .inr (s1.seqT hq), rfl, flat_ints _, ?_⟩
      rw [in_ints]
      rw [ev] at hQ'
      exact hQ' _ _ ⟨_, rfl⟩ (Same.refl _)
    · rintro H1 s1 z hz
      refine ⟨z, _, rfl, SqL.of upd_same, ?_⟩
      rw [List.all_map]
      exact k _ (s1.trans (Same.new hz))
def RoomsOk (n : Int) (rs : List Int) : Prop := rs.length = n.toNat ∧ ∀ r ∈ rs, 0 ≤ r ∧ r ≤ 12
def spRooms (K : PySem.W.Frag) : Sp := fun vs H Q _ => ∃ (x : V) (q : Addr) (n : Int) (ws : List (List Int)) (rs : List Int), vs = [x, .ref q] ∧ Den K H (bookD n ws) x ∧ isBook (bookD n ws) = true ∧ SqT K H q (rs.map V.int) ∧ RoomsOk n rs ∧ ∀ H', Same H H' → Q (.bl true) H'
theorem scRooms : FnScope ["book", "thing"] ["book", "thing"] (defScope sRooms) := ⟨rfl, rfl, rfl, by decide +kernel, rfl, by decide +kernel, by decide +kernel⟩
theorem ok_rooms {f : Addr} {fd : FuncData} (G : Fn K mg "are_rooms" sRooms ["book", "thing"] f fd) (B : Bl mg) (R : Pr K mg fW fH fK fB fNB dW dH dK dB dNB) : FnOk P w K mg base CX0 5 f fd ["book", "thing"] (spRooms K) := by
  have ONB : FnOk P w K mg base CX0 4 fNB dNB ["book"] (spNeedB K) := ok_needB B R
  have OW : FnOk P w K mg base CX0 1 fW dW ["thing"] (spWhole K) := ok_whole R.W B
  refine G.fn.ok scRooms (fun vs H Q E h => ?_) (fun cdv A outer s H vs Q E hr h => ?_)
  · obtain ⟨x, q, n, ws, rs, rfl, _⟩ := h
    rfl
  · obtain ⟨x, q, n, ws, rs, rfl, hx, hb, hq, ⟨hlen, hr12⟩, k⟩ := h
    obtain ⟨t12, h12⟩ := B.mr
    have r4 : Room 4 _ := hr
    have r1 : Room 1 _ := hr.mono (by decide)
    refine ⟨_, (pss_cons (ps_expr (pe_fn R.NB ONB r4 rfl (pa_cons (pv 0) pa_nil)))
    (pss_cons (ps_if (PW.pt (pw_or (pt_not (pt_val (pe_callB call_isi_tuple rfl B.isinstance b_isi (pa_cons (pv 1) (pa_cons (pe_bltn (v := .ty "tuple") rfl B.tuple b_tuple rfl) pa_nil))))) (pw_or1 (pt_cmpR op_ne (pe_callB call_len_seq rfl B.len b_len (pa_cons (pv 1) pa_nil)) (pe_ix ix_tup (pv 0) pe_int (fun _ _ => rfl)) (nomark _)))))
      (pss_one (ps_ret pe_bl))
      pss_nil)
    (pss_one (ps_ret (pe_callB (call_all rfl) rfl B.all b_all (pa_cons (pe_comp (own := ["room"]) (fr := []) (frn := []) (compOk_of (defScope sRooms) ["book", "thing"] rfl rfl (by decide +kernel)) rfl (pi_tup (pv 1))
        (fun _ _ _ _ => (pg_name (i := 0) (show (["room"] : List Str).Nodup by decide +kernel) rfl (Or.inl rfl))) (fun _ _ _ _ => pf_nil)
        (fun _ _ _ _ => (pe_and (pe_fn R.W OW r1 rfl (pa_cons (pv 0) pa_nil)) (pe_one (pe_chain op_le op_le pe_int (pv 0) (pe_glob (v := .int 12) rfl h12 ⟨t12, rfl⟩)))))) pa_nil)))))), ?_⟩
    obtain ⟨hn1, hn6, hw12, hws⟩ := book_parts hb
    refine ⟨_, rfl, x, _, rfl, hx, hb, fun H1 s1 => ?_⟩
    obtain ⟨a, b, ys, rfl, ha, hb2, hys⟩ := den_book (s1.den _ _ hx)
    have hq1 := s1.seqT hq
    refine ⟨_, rfl, .ref q, .tup, rfl, .inr (.inl ⟨rfl, _, hq1⟩), _, rfl, ?_⟩
    refine iteF ?_
    refine ⟨_, rfl, q, _, rfl, .inr hq1, _, rfl, a, _, 0, .int n, rfl, rfl, ha, rfl, rfl, _, rfl, ?_⟩
    have el : decide (V.int ((rs.map V.int).length : Nat) = V.int n) = true := decide_eq_true (by rw [List.length_map, hlen]; congr 1; omega)
    rw [el]
    refine iteF ?_
    refine ⟨_, rfl, q, rfl, ⟨_, hq1⟩, comp_fnT (K := K) (a := q) (xs := rs.map V.int) (vs := (List.replicate rs.length true).map V.bl) (fun σ => ∃ v, σ = [v]) (by rw [List.length_map]; omega) (by rw [List.length_map, List.length_replicate, List.length_map]) hq1 ⟨none, rfl⟩ ?_ ?_⟩
    · rintro i xv v σ H2 hxv hv ⟨v0, rfl⟩ s2 Q' hQ'
      obtain ⟨r, hr', rfl⟩ := of_map hxv
      obtain ⟨r0, r12⟩ := hr12 r (List.mem_of_getElem? hr')
      have ev : v = .bl true := by
        obtain ⟨b, hb, rfl⟩ : ∃ b, b ∈ List.replicate rs.length true ∧ V.bl b = v := List.mem_map.mp (List.mem_of_getElem? hv)
        rw [List.eq_of_mem_replicate hb]
      subst ev
      refine ⟨_, rfl, _, .int r, rfl, den_int.mpr rfl, _, rfl, ?_⟩
      refine iteT ?_
      refine ⟨_, rfl, _, _, rfl, rfl, _, rfl, ?_⟩
      rw [decide_eq_true r0]
      refine iteT ?_
      refine ⟨_, _, rfl, rfl, ?_⟩
      have e12 : decide (r ≤ 12) = true := decide_eq_true r12
      dsimp only
      rw [e12]
      exact hQ' _ _ ⟨_, rfl⟩ (Same.refl _)
    · rintro H2 s2 z hz
      refine ⟨z, _, rfl, SqL.of upd_same, ?_⟩
      rw [show (List.replicate rs.length true).all id = true by simp]
      exact k _ ((s1.trans s2).trans (Same.new hz))
def spNeedR (K : PySem.W.Frag) : Sp := fun vs H Q _ => ∃ (x : V) (q : Addr) (n : Int) (ws : List (List Int)) (rs : List Int), vs = [x, .ref q] ∧ Den K H (bookD n ws) x ∧ isBook (bookD n ws) = true ∧ SqT K H q (rs.map V.int) ∧ RoomsOk n rs ∧ ∀ H', Same H H' → Q .non H'
theorem scNeedR : FnScope ["book", "rooms"] ["book", "rooms"] (defScope sNeedR) := ⟨rfl, rfl, rfl, by decide +kernel, rfl, by decide +kernel, by decide +kernel⟩
theorem ok_needR {f fA : Addr} {fd dA : FuncData} (G : Fn K mg "need_rooms" sNeedR ["book", "rooms"] f fd) (B : Bl mg) (R : Pr K mg fW fH fK fB fNB dW dH dK dB dNB) (GAr : Fn K mg "are_rooms" sRooms ["book", "thing"] fA dA) : FnOk P w K mg base CX0 6 f fd ["book", "rooms"] (spNeedR K) := by
  have OAr : FnOk P w K mg base CX0 5 fA dA ["book", "thing"] (spRooms K) := ok_rooms GAr B R
  refine G.fn.ok scNeedR (fun vs H Q E h => ?_) (fun cdv A outer s H vs Q E hr h => ?_)
  · obtain ⟨x, q, n, ws, rs, rfl, _⟩ := h
    rfl
  · obtain ⟨x, q, n, ws, rs, rfl, hx, hb, hq, hro, k⟩ := h
    refine ⟨_, pss_one (ps_if (pt_not (pt_val (pe_fn GAr OAr hr rfl (pa_cons (pv 0) (pa_cons (pv 1) pa_nil))))) pss_never pss_nil), ?_⟩
    refine ⟨_, rfl, _, rfl, x, q, n, ws, rs, rfl, hx, hb, hq, hro, fun H' s' => ⟨_, rfl, ?_⟩⟩
    refine iteF ?_
    exact k H' s'
end
end Ab
set_option Elab.async false
set_option linter.all false
set_option maxRecDepth 100000
namespace Ab
open PySem L2
theorem tAnd_val {tA tB : TT} {σ : St} {H : Hp} {Q : Bool → Hp → Prop} (a b : Bool) (hA : ∀ R : Bool → Hp → Prop, (∀ H2, Same H H2 → R a H2) → tA σ H R) (hB : ∀ H2, Same H H2 → a = true → ∀ R : Bool → Hp → Prop, (∀ H3, Same H2 H3 → R b H3) → tB σ H2 R) (h : ∀ H3, Same H H3 → Q (a && b) H3) : tAnd tA tB σ H Q := by
  refine hA _ fun H2 s2 => ?_
  cases a with
  | false => exact iteF (h H2 s2)
  | true => exact iteT (hB H2 s2 rfl _ fun H3 s3 => h H3 (s2.trans s3))
theorem sumTo_rooms {n : Int} {rs : List Int} (h : RoomsOk n rs) (x : Int) : 0 ≤ rs.getD x.toNat 0 ∧ rs.getD x.toNat 0 < 1000000 := by
  rw [List.getD_eq_getElem?_getD]
  cases q : rs[x.toNat]? with
  | none => exact ⟨Int.le_refl _, by decide⟩
  | some r => have := h.2 r (List.mem_of_getElem? q); exact ⟨this.1, by show r < 1000000; omega⟩
section
variable {P : Program} {w : World} {K : PySem.W.Frag} {mg : Str → Option Value} {base : Heap}
variable {fW fH fK fB fNB : Addr} {dW dH dK dB dNB : FuncData}
def overI (ws : List (List Int)) (rs ls : List Int) : Int := (((ws.filter fun l => l.all fun h => ls.any (· == h)).length : Nat) : Int) - sumTo (ls.map fun h => rs.getD h.toNat 0)
def doBarB (n : Int) (ws : List (List Int)) (rs ls : List Int) (m : Int) : Bool := (ls.isEmpty || isWork n (workD ls)) && decide (m ≤ overI ws rs ls)
def spDoBar (K : PySem.W.Frag) : Sp := fun vs H Q _ => ∃ (x : V) (q p : Addr) (n : Int) (ws : List (List Int)) (rs ls : List Int) (m : Int), vs = [x, .ref q, .ref p, .int m] ∧ Den K H (bookD n ws) x ∧ isBook (bookD n ws) = true ∧ SqT K H q (rs.map V.int) ∧ RoomsOk n rs ∧ SqT K H p (ls.map V.int) ∧ ls.length ≤ 20 ∧ ∀ H', Same H H' → Q (.bl (doBarB n ws rs ls m)) H'
theorem scDoBar : FnScope ["book", "rooms", "some", "number", "alone"] ["book", "rooms", "some", "number"] (defScope sDoBar) := ⟨rfl, rfl, rfl, by decide +kernel, rfl, by decide +kernel, by decide +kernel⟩
theorem ok_doBar {f fN fI : Addr} {fd dN dI : FuncData} (G : Fn K mg "do_bar" sDoBar ["book", "rooms", "some", "number"] f fd) (B : Bl mg) (R : Pr K mg fW fH fK fB fNB dW dH dK dB dNB) (GNr : Fn K mg "need_rooms" sNeedR ["book", "rooms"] fN dN) (ONr : FnOk P w K mg base CX0 6 fN dN ["book", "rooms"] (spNeedR K)) (GWi : Fn K mg "is_within" sWithin ["able", "some"] fI dI) : FnOk P w K mg base CX0 7 f fd ["book", "rooms", "some", "number"] (spDoBar K) := by
  have OW : FnOk P w K mg base CX0 1 fW dW ["thing"] (spWhole K) := ok_whole R.W B
  have OKw : FnOk P w K mg base CX0 2 fK dK ["hands", "thing"] (spWorkP K) := ok_workP R.Kw B R.W
  have OWi : FnOk P w K mg base CX0 1 fI dI ["able", "some"] (spWithin K) := ok_within GWi B
  refine G.fn.ok scDoBar (fun vs H Q E h => ?_) (fun cdv A outer s H vs Q E hr h => ?_)
  · obtain ⟨x, q, p, n, ws, rs, ls, m, rfl, _⟩ := h
    rfl
  · obtain ⟨x, q, p, n, ws, rs, ls, m, rfl, hx, hb, hq, hro, hp, hl20, k⟩ := h
    have r6 : Room 6 _ := hr
    have r2 : Room 2 _ := hr.mono (by decide)
    have r1 : Room 1 _ := hr.mono (by decide)
    refine ⟨_, (pss_cons (ps_expr (pe_fn GNr ONr r6 rfl (pa_cons (pv 0) (pa_cons (pv 1) pa_nil))))
    (pss_cons (ps_if (PW.pt (pw_or (pt_not (pt_val (pe_fn R.W OW r1 rfl (pa_cons (pv 3) pa_nil)))) (pw_or1 (PW.pt (pw_and (pt_cmpR (op_neD hr.u64) (pv 2) (pe_tup pa_nil) (nomark _)) (pw_and1 (pt_not (pt_val (pe_fn R.Kw OKw r2 rfl (pa_cons (pe_ix ix_tup (pv 0) pe_int (fun _ _ => rfl)) (pa_cons (pv 2) pa_nil)))))))))))
      (pss_one (ps_ret pe_bl))
      pss_nil)
    (pss_cons (ps_set (i := 4) scDoBar.nd rfl (Or.inl rfl) (pe_callB call_len_seq rfl B.len b_len (pa_cons (pe_comp (own := ["able"]) (fr := [2]) (frn := ["some"]) (compOk_of (defScope sDoBar) ["book", "rooms", "some", "number", "alone"] rfl rfl (by decide +kernel)) rfl (pi_tup (pe_ix ix_tup (pv 0) pe_int (fun _ _ => rfl)))
        (fun _ _ _ _ => (pg_name (i := 0) (show (["able", "some"] : List Str).Nodup by decide +kernel) rfl (Or.inl rfl))) (fun _ _ _ _ => pf_one (pt_val (pe_fn GWi OWi r1 rfl (pa_cons (pv 0) (pa_cons (pv 1) pa_nil)))))
        (fun _ _ _ _ => (pv 0))) pa_nil)))
    (pss_one (ps_ret (pe_cmpR op_ge (pe_op op_sub (pv 4) (pe_callB (call_sum rfl) rfl B.sum b_sum (pa_cons (pe_comp (own := ["hand"]) (fr := [1]) (frn := ["rooms"]) (compOk_of (defScope sDoBar) ["book", "rooms", "some", "number", "alone"] rfl rfl (by decide +kernel)) rfl (pi_tup (pv 2))
        (fun _ _ _ _ => (pg_name (i := 0) (show (["hand", "rooms"] : List Str).Nodup by decide +kernel) rfl (Or.inl rfl))) (fun _ _ _ _ => pf_nil)
        (fun _ _ _ _ => (pe_ix (ix_tupK (K := K) rfl) (pv 1) (pv 0) (fun _ _ => rfl)))) pa_nil))) (pv 3) (nomark _))))))), ?_⟩
    obtain ⟨hn1, hn6, hw12, hws⟩ := book_parts hb
    refine ⟨_, rfl, _, rfl, x, q, n, ws, rs, rfl, hx, hb, hq, hro, fun H1 s1 => ?_⟩
    obtain ⟨a, b, ys, rfl, ha, hb2, hys⟩ := den_book (s1.den _ _ hx)
    have hlw := denAll_length hys
    rw [List.length_map] at hlw
    have hp1 := s1.seqT hp
    have hq1 := s1.seqT hq
    refine ⟨_, rfl, .int m, .int m, rfl, den_int.mpr rfl, _, rfl, ?_⟩
    refine iteF ?_
    refine tAnd_val (!ls.isEmpty) (!isWork n (workD ls)) (fun R hR => ?_) (fun H2 s2 _ R hR => ?_) (fun H3 s3 => ?_)
    · refine ⟨_, rfl, size1 (Nat.zero_le _), fun z hz => ⟨.tuple (ls.map .int), .tuple (([] : List Int).map .int), den_tints.mpr ⟨p, rfl, (Same.new hz).seqT hp1⟩, den_tints.mpr ⟨z, rfl, SqT.of upd_same⟩, noDict_tints _, noDict_tints _, shaped_tints _, shaped_tints _, _, rfl, ?_⟩⟩
      rw [eqv_tints, show decide (ls = []) = ls.isEmpty by cases ls <;> rfl]
      exact hR _ (Same.new hz)
    · exact ⟨_, rfl, a, _, 0, .int n, rfl, rfl, s2.seqT ha, rfl, _, rfl, n, .ref p, workD ls, rfl, den_tints.mpr ⟨p, rfl, s2.seqT hp1⟩, _, rfl, hR _ (Same.refl _)⟩
    · have hp3 := s3.seqT hp1
      have hq3 := s3.seqT hq1
      refine ite2 (fun c => ?_) (fun c => ?_)
      · have e : doBarB n ws rs ls m = false := by
          unfold doBarB
          simp only [Bool.and_eq_true, Bool.not_eq_true'] at c
          rw [c.1, c.2]; rfl
        rw [e] at k
        exact k _ (s1.trans s3)
      have hok : (ls.isEmpty || isWork n (workD ls)) = true := by
        cases h1 : ls.isEmpty <;> cases h2 : isWork n (workD ls) <;> simp [h1, h2] at c ⊢
      have hin : ∀ h ∈ ls, 0 ≤ h ∧ h < n := fun h hh => by
        rw [Bool.or_eq_true] at hok
        rcases hok with z | z
        · cases ls with
          | nil => cases hh
          | cons _ _ => cases z
        · exact (work_parts z).2.1 h hh
      refine ⟨_, rfl, a, _, 1, .ref b, rfl, rfl, s3.seqT ha, rfl, b, rfl, ⟨_, s3.seqT hb2⟩, comp_tup (K := K) (a := b) (xs := ys) (fun σ => ∃ v, σ = [v, some (.ref p)]) (fun i zs H4 => Same H3 H4 ∧ zs.length = ((ws.take i).filter fun l => l.all fun h => ls.any (· == h)).length) (size1 (by omega)) ⟨none, rfl⟩ ⟨Same.refl _, rfl⟩ ?_ ?_ ?_ ?_⟩
      · rintro i zs H4 ⟨_, hz⟩
        rw [hz]
        exact Nat.le_trans (List.length_filter_le _ _) (by rw [List.length_take]; omega)
      · rintro i zs H4 ⟨s4, _⟩
        exact (s3.trans s4).seqT hb2
      · rintro i zs σ u H4 hu ⟨v0, rfl⟩ ⟨s4, hzl⟩ hz
        obtain ⟨dv, hdv, denv⟩ := denAll_at hys hu
        rw [List.getElem?_map] at hdv
        obtain ⟨l, hl, rfl⟩ : ∃ l, ws[i]? = some l ∧ workD l = dv := by
          cases q : ws[i]? with
          | none => rw [q] at hdv; cases hdv
          | some l => rw [q] at hdv; exact ⟨l, rfl, Option.some.inj hdv⟩
        obtain ⟨aw, rfl, haw⟩ := den_tints.mp denv
        obtain ⟨w1, w2, w3⟩ := work_parts (hws l (List.mem_of_getElem? hl))
        have hl6 := work_short (by omega) w2 w3
        have etake : ws.take (i + 1) = ws.take i ++ [l] := by rw [List.take_succ, hl]; rfl
        refine ⟨_, rfl, _, rfl, aw, p, l, ls, rfl, (s3.trans s4).seqT haw, s4.seqT hp3, by omega, fun H5 s5 => ⟨_, rfl, ?_⟩⟩
        refine ite2 (fun c => ?_) (fun c => ?_)
        · refine ⟨_, rfl, hz, ⟨_, rfl⟩, s4.trans s5, ?_⟩
          rw [etake, List.filter_append, List.length_append, List.length_append, hzl]
          congr 1
          rw [List.filter_cons_of_pos (p := fun l : List Int => l.all fun h => ls.any (· == h)) (a := l) (l := []) c]; rfl
        · refine ⟨⟨_, rfl⟩, s4.trans s5, ?_⟩
          rw [etake, List.filter_append, List.length_append, hzl, List.filter_cons_of_neg (p := fun l : List Int => l.all fun h => ls.any (· == h)) (a := l) (l := []) c]; rfl
      · rintro zs H4 ⟨s4, hzl⟩ z hz
        rw [hlw, List.take_length] at hzl
        have s5 := s4.trans (Same.new (o := .lst zs) hz)
        refine ⟨z, _, rfl, .inl (SqL.of upd_same), ?_⟩
        rw [hzl]
        generalize upd H4 z (.lst zs) = H5 at s5 ⊢
        have hp5 := s5.seqT hp3
        have hq5 := s5.seqT hq3
        refine ⟨_, rfl, _, rfl, p, rfl, ⟨_, hp5⟩, comp_fnT (K := K) (a := p) (xs := ls.map V.int) (vs := (ls.map fun h => rs.getD h.toNat 0).map V.int) (fun σ => ∃ v, σ = [v, some (.ref q)]) (by rw [List.length_map]; omega) (by rw [List.length_map, List.length_map, List.length_map]) hp5 ⟨none, rfl⟩ ?_ ?_⟩
        · rintro i xv v σ H6 hxv hv ⟨v0, rfl⟩ s6 Q' hQ'
          obtain ⟨h, hh, rfl⟩ := of_map hxv
          obtain ⟨h0, h1⟩ := hin h (List.mem_of_getElem? hh)
          have ev : v = V.int (rs.getD h.toNat 0) := by
            rw [List.getElem?_map, List.getElem?_map, hh] at hv
            exact (Option.some.inj hv).symm
          have hlt : h.toNat < rs.length := by rw [hro.1]; omega
          have hat : atI (rs.map V.int) h = some (.int (rs.getD h.toNat 0)) := by
            have e := atI_nat (xs := rs.map V.int) (j := h.toNat) (v := .int (rs.getD h.toNat 0)) (by rw [List.getElem?_map, List.getD_eq_getElem?_getD, List.getElem?_eq_getElem hlt]; rfl)
            rwa [show ((h.toNat : Nat) : Int) = h by omega] at e
          refine ⟨_, rfl, _, rfl, q, _, h, _, rfl, rfl, s6.seqT hq5, hat, ?_⟩
          rw [ev] at hQ'
          exact hQ' _ _ ⟨_, rfl⟩ (Same.refl _)
        · rintro H6 s6 z2 hz2
          refine ⟨z2, ls.map fun h => rs.getD h.toNat 0, rfl, SqL.of upd_same, fun y hy => ?_, by rw [List.length_map]; omega, _, _, rfl, rfl, _, rfl, _, _, rfl, rfl, ?_⟩
          · obtain ⟨h, _, rfl⟩ := List.mem_map.mp hy
            exact sumTo_rooms hro h
          · have e : doBarB n ws rs ls m = decide (m ≤ overI ws rs ls) := by unfold doBarB; rw [hok, Bool.true_and]
            rw [e] at k
            exact k _ ((s1.trans s3).trans (s5.trans (s6.trans (Same.new hz2))))
end
end Ab
set_option Elab.async false
set_option linter.all false
set_option maxRecDepth 100000
namespace Ab
open PySem L2
def roomIn : PyData → List Int → Bool
  | .none, _ => true
  | .int i, l => l.any (· == i)
  | _, _ => false
def optOf : PyData → Option Int
  | .int i => some i
  | _ => none
def fitsB (os : List (Option Int)) (rs : List Int) : Bool := (List.range rs.length).all fun i => decide (((os.count (some (i : Int)) : Nat) : Int) ≤ rs.getD i 0)
def inRoomsB (ws : List (List Int)) (rs : List Int) : PyData → Bool
  | .tuple ds => decide (ds.length = ws.length) && ((ds.zip ws).all (fun p => roomIn p.1 p.2) && fitsB (ds.map optOf) rs)
  | _ => false
theorem opt_of : ∀ {K : PySem.W.Frag} {H : Hp} {ds : List PyData} {xs : List V}, DenAll K H ds xs → (∀ d ∈ ds, d = .none ∨ ∃ i, d = .int i) → xs = (ds.map optOf).map oV
  | K, H, [], xs, h, _ => by rw [denAll_nil.mp h]; rfl
  | K, H, d :: ds, xs, h, hd => by
    obtain ⟨x, r, rfl, h1, h2⟩ := denAll_cons.mp h
    rw [opt_of h2 fun e he => hd e (List.mem_cons_of_mem _ he)]
    rcases hd d (List.mem_cons_self ..) with rfl | ⟨i, rfl⟩
    · rw [den_none.mp h1]; rfl
    · rw [den_int.mp h1]; rfl
section
variable {P : Program} {w : World} {K : PySem.W.Frag} {mg : Str → Option Value} {base : Heap}
variable {fW fH fK fB fNB : Addr} {dW dH dK dB dNB : FuncData}
def spInR (K : PySem.W.Frag) : Sp := fun vs H Q _ => ∃ (x : V) (q : Addr) (y : V) (n : Int) (ws : List (List Int)) (rs : List Int) (d : PyData), vs = [x, .ref q, y] ∧ Den K H (bookD n ws) x ∧ isBook (bookD n ws) = true ∧ SqT K H q (rs.map V.int) ∧ RoomsOk n rs ∧ Den K H d y ∧ ∀ H', Same H H' → Q (.bl (inRoomsB ws rs d)) H'
theorem scInR : FnScope ["book", "rooms", "thing", "hand", "able"] ["book", "rooms", "thing"] (defScope sInRooms) := ⟨rfl, rfl, rfl, by decide +kernel, rfl, by decide +kernel, by decide +kernel⟩
theorem ok_inR {f fN : Addr} {fd dN : FuncData} (G : Fn K mg "is_in_rooms" sInRooms ["book", "rooms", "thing"] f fd) (B : Bl mg) (R : Pr K mg fW fH fK fB fNB dW dH dK dB dNB) (GNr : Fn K mg "need_rooms" sNeedR ["book", "rooms"] fN dN) (ONr : FnOk P w K mg base CX0 6 fN dN ["book", "rooms"] (spNeedR K)) : FnOk P w K mg base CX0 7 f fd ["book", "rooms", "thing"] (spInR K) := by
  have OW : FnOk P w K mg base CX0 1 fW dW ["thing"] (spWhole K) := ok_whole R.W B
  refine G.fn.ok scInR (fun vs H Q E h => ?_) (fun cdv A outer s H vs Q E hr h => ?_)
  · obtain ⟨x, q, y, n, ws, rs, d, rfl, _⟩ := h
    rfl
  · obtain ⟨x, q, y, n, ws, rs, d, rfl, hx, hb, hq, hro, hd, k⟩ := h
    have r6 : Room 6 _ := hr
    have r1 : Room 1 _ := hr.mono (by decide)
    refine ⟨_, (pss_cons (ps_expr (pe_fn GNr ONr r6 rfl (pa_cons (pv 0) (pa_cons (pv 1) pa_nil))))
    (pss_cons (ps_if (PW.pt (pw_or (pt_not (pt_val (pe_callB call_isi_tuple rfl B.isinstance b_isi (pa_cons (pv 2) (pa_cons (pe_bltn (v := .ty "tuple") rfl B.tuple b_tuple rfl) pa_nil))))) (pw_or1 (pt_cmpR op_ne (pe_callB call_len_seq rfl B.len b_len (pa_cons (pv 2) pa_nil)) (pe_callB call_len_seq rfl B.len b_len (pa_cons (pe_ix ix_tup (pv 0) pe_int (fun _ _ => rfl)) pa_nil)) (nomark _)))))
      (pss_one (ps_ret pe_bl))
      pss_nil)
    (pss_cons (ps_for PassesOwn.never rfl (pi_zip .t .t rfl B.zip (pa_cons (pv 2) (pa_cons (pe_ix ix_tup (pv 0) pe_int (fun _ _ => rfl)) pa_nil))) (pg_tup rfl (pgs_cons (pg_name (i := 3) scInR.nd rfl (Or.inl rfl)) (pgs_cons (pg_name (i := 4) scInR.nd rfl (Or.inl rfl)) pgs_nil)))
      (pss_one (ps_if (PW.pt (pw_and (pt_cmpR op_notN (pv 3) pe_non (nomark _)) (pw_and1 (pt_not (PW.pt (pw_and (pt_val (pe_fn R.W OW r1 rfl (pa_cons (pv 3) pa_nil))) (pw_and1 (pt_cmpR op_in_seq (pv 3) (pv 4) (by with_unfolding_all rfl)))))))))
      (pss_one (ps_ret pe_bl))
      pss_nil)))
    (pss_one (ps_ret (pe_callB (call_all rfl) rfl B.all b_all (pa_cons (pe_comp (own := ["hand", "room"]) (fr := [2]) (frn := ["thing"]) (compOk_of (defScope sInRooms) ["book", "rooms", "thing", "hand", "able"] rfl rfl (by decide +kernel)) rfl (pi_enum .t rfl B.enumerate (pa_cons (pv 1) pa_nil))
        (fun _ _ _ _ => (pg_tupK (K := K) (n := 2) rfl rfl (pgs_cons (pg_name (i := 0) (show (["hand", "room", "thing"] : List Str).Nodup by decide +kernel) rfl (Or.inl rfl)) (pgs_cons (pg_name (i := 1) (show (["hand", "room", "thing"] : List Str).Nodup by decide +kernel) rfl (Or.inl rfl)) pgs_nil)))) (fun _ _ _ _ => pf_nil)
        (fun _ _ _ _ => (pe_cmpR op_le (pe_bmK (K := K) rfl PySem.F.plainAttrs_tuple PySem.F.slot_tuple_count PySem.F.type_tuple_count (mt_countNK (K := K) rfl) (pv 2) (pa_cons (pv 0) pa_nil)) (pv 1) (nomark _)))) pa_nil))))))), ?_⟩
    obtain ⟨hn1, hn6, hw12, hws⟩ := book_parts hb
    refine ⟨_, rfl, _, rfl, x, q, n, ws, rs, rfl, hx, hb, hq, hro, fun H1 s1 => ?_⟩
    obtain ⟨a, b, ys, rfl, ha, hb2, hys⟩ := den_book (s1.den _ _ hx)
    have hlw := denAll_length hys
    rw [List.length_map] at hlw
    have hd1 := s1.den _ _ hd
    have hq1 := s1.seqT hq
    refine ⟨_, rfl, y, kdOf d, rfl, hd1.kd, _, rfl, ?_⟩
    refine ite2 (fun c => ?_) (fun c => ?_)
    · refine iteT ?_
      have e : false = inRoomsB ws rs d := by cases d <;> first | rfl | (exfalso; simp [kdOf] at c)
      rw [← e] at k; exact k H1 s1
    obtain ⟨hs, rfl⟩ : ∃ hs, d = .tuple hs := by cases d <;> first | exact ⟨_, rfl⟩ | (exfalso; simp [kdOf] at c)
    obtain ⟨a2, xs, rfl, ha2, hxs⟩ := den_tuple.mp hd1
    have hlx := denAll_length hxs
    refine ⟨_, rfl, a2, xs, rfl, .inr ha2, _, rfl, a, _, 1, .ref b, rfl, rfl, ha, rfl, b, ys, rfl, .inr hb2, rfl, _, rfl, ?_⟩
    refine ite2 (fun c2 => ?_) (fun c2 => ?_)
    · have e : inRoomsB ws rs (.tuple hs) = false := by
        show (decide (hs.length = ws.length) && _) = false
        rw [decide_eq_false]
        · rfl
        · intro z
          have : (V.int (xs.length : Int) = V.int (ys.length : Int)) := by rw [hlx, hlw, z]
          simp [this] at c2
      rw [e] at k; exact k H1 s1
    have heq : xs.length = ys.length := by
      have : V.int (xs.length : Int) = V.int (ys.length : Int) := by simpa using c2
      injection this with this
      omega
    have hfalse : ∀ (i : Nat) du l, hs[i]? = some du → ws[i]? = some l → roomIn du l = false → inRoomsB ws rs (.tuple hs) = false := fun i du l h1 h2 h3 => by
      have e : (hs.zip ws).all (fun p => roomIn p.1 p.2) = false := by
        rw [← Bool.not_eq_true, List.all_eq_true]
        intro z
        have := z (du, l) (List.mem_of_getElem? (i := i) (by rw [List.getElem?_zip_eq_some]; exact ⟨h1, h2⟩))
        rw [h3] at this; cases this
      show (_ && (_ && _)) = false
      rw [e, Bool.false_and, Bool.and_false]
    refine ⟨_, rfl, _, rfl, a, _, 1, .ref b, rfl, rfl, ha, rfl, a2, b, _, _, rfl, ha2, hb2, for_zip (K := K) (k1 := .t) (k2 := .t) (a := a2) (b := b) (xs := xs) (ys := ys) (fun i σ H3 => (∃ v3 v4, σ = [some (.ref a), some (.ref q), some (.ref a2), v3, v4]) ∧ Same H1 H3 ∧ ∀ (j : Nat) du l, j < i → hs[j]? = some du → ws[j]? = some l → roomIn du l = true)
      heq ⟨⟨_, _, rfl⟩, Same.refl _, fun j _ _ hj => absurd hj (Nat.not_lt_zero _)⟩ (fun i σ H3 _ ⟨_, s3, _⟩ => ⟨s3.seqT ha2, s3.seqT hb2⟩) ?_ ?_⟩
    · rintro i u v t σ H3 hu hv ⟨⟨v3, v4, rfl⟩, s3, hall⟩ ht
      obtain ⟨du, hdu, denu⟩ := denAll_at hxs hu
      obtain ⟨dv, hdv, denv⟩ := denAll_at hys hv
      rw [List.getElem?_map] at hdv
      obtain ⟨l, hl, rfl⟩ : ∃ l, ws[i]? = some l ∧ workD l = dv := by
        cases q : ws[i]? with
        | none => rw [q] at hdv; cases hdv
        | some l => rw [q] at hdv; exact ⟨l, rfl, Option.some.inj hdv⟩
      obtain ⟨aw, rfl, haw⟩ := den_tints.mp denv
      have s4 := s3.trans (Same.new (o := .tup [u, .ref aw]) ht)
      have et : upd H3 t (.tup [u, .ref aw]) t = some (.tup [u, .ref aw]) := upd_same
      generalize upd H3 t (.tup [u, .ref aw]) = H4 at s4 et ⊢
      have next : roomIn du l = true → ∀ (j : Nat) du l, j < i + 1 → hs[j]? = some du → ws[j]? = some l → roomIn du l = true := fun h j du' l' hj h1 h2 => by
        by_cases z : j = i
        · subst z
          rw [hdu] at h1; rw [hl] at h2
          rw [← Option.some.inj h1, ← Option.some.inj h2]; exact h
        · exact hall j du' l' (by omega) h1 h2
      refine ⟨t, _, rfl, SqT.of et, rfl, _, _, rfl, _, _, rfl, rfl, ?_⟩
      refine ⟨_, rfl, rfl, _, rfl, ?_⟩
      by_cases hnon : du = .none
      · subst hnon
        obtain rfl := den_none.mp denu
        refine iteF ?_
        refine iteF ?_
        exact ⟨⟨_, _, rfl⟩, s4, next rfl⟩
      · have hun : u ≠ .non := fun z => by
          subst z
          cases du <;> first | exact hnon rfl | (simp [Den] at denu) | (cases denu)
        rw [decide_eq_false hun]
        refine iteT ?_
        refine ⟨_, rfl, u, du, rfl, s4.den _ _ denu, _, rfl, ?_⟩
        refine ite2 (fun c3 => ?_) (fun c3 => ?_)
        · obtain ⟨j, rfl⟩ : ∃ j, du = .int j := by cases du <;> first | exact ⟨_, rfl⟩ | (exfalso; simp [isWhole] at c3)
          obtain rfl := den_int.mp denu
          refine ⟨_, rfl, _, rfl, aw, _, rfl, .inr (s4.seqT haw), rfl, flat_ints l, _, rfl, ?_⟩
          cases hany : l.any (· == j) with
          | true =>
            rw [(in_ints j l).trans hany]
            refine iteF ?_
            exact ⟨⟨_, _, rfl⟩, s4, next hany⟩
          | false =>
            rw [(in_ints j l).trans hany]
            refine iteT ?_
            rw [hfalse i _ l hdu hl hany] at k
            exact k _ (s1.trans s4)
        · have e : roomIn du l = false := by cases du <;> first | rfl | exact absurd rfl hnon | (exfalso; simp [isWhole] at c3)
          refine iteT ?_
          rw [hfalse i _ l hdu hl e] at k
          exact k _ (s1.trans s4)
    · rintro σ H3 ⟨⟨v3, v4, rfl⟩, s3, hall⟩
      have hlen : hs.length = ws.length := by omega
      have each : ∀ d ∈ hs, d = .none ∨ ∃ i, d = .int i := fun d hd => by
        obtain ⟨j, hj⟩ := List.mem_iff_getElem?.mp hd
        have hjl := (List.getElem?_eq_some_iff.mp hj).1
        have := hall j d _ (by omega) hj (List.getElem?_eq_getElem (show j < ws.length by omega))
        cases d <;> first | exact .inl rfl | exact .inr ⟨_, rfl⟩ | cases this
      have exs := opt_of hxs each
      have hallT : (hs.zip ws).all (fun p => roomIn p.1 p.2) = true := by
        rw [List.all_eq_true]
        intro p hp
        obtain ⟨j, hj⟩ := List.mem_iff_getElem?.mp hp
        rw [List.getElem?_zip_eq_some] at hj
        have hjl := (List.getElem?_eq_some_iff.mp hj.1).1
        exact hall j _ _ (by omega) hj.1 hj.2
      have ek : inRoomsB ws rs (.tuple hs) = fitsB (hs.map optOf) rs := by
        show (decide (hs.length = ws.length) && (_ && _)) = _
        rw [decide_eq_true hlen, hallT, Bool.true_and, Bool.true_and]
      rw [ek] at k
      refine ⟨_, rfl, q, _, rfl, s3.seqT hq1, comp_fnE (K := K) (k := .t) (a := q) (xs := rs.map V.int) (vs := ((List.range rs.length).map fun i => decide ((((hs.map optOf).count (some ((i : Nat) : Int)) : Nat) : Int) ≤ rs.getD i 0)).map V.bl) (fun σ => ∃ v0 v1, σ = [v0, v1, some (.ref a2)]) (by rw [List.length_map, hro.1]; omega) (by rw [List.length_map, List.length_map, List.length_range, List.length_map]) (fun H' s' => (s3.trans s').seqT hq1) ⟨none, none, rfl⟩ ?_ ?_⟩
      · rintro i xv v t σ H5 hxv hv ht ⟨v0, v1, rfl⟩ s5 Q' hQ'
        obtain ⟨r, hr', rfl⟩ := of_map hxv
        have hil := (List.getElem?_eq_some_iff.mp hr').1
        have er : rs.getD i 0 = r := by rw [List.getD_eq_getElem?_getD, hr']; rfl
        have ev : v = V.bl (decide ((((hs.map optOf).count (some ((i : Nat) : Int)) : Nat) : Int) ≤ r)) := by
          rw [List.getElem?_map, List.getElem?_map, List.getElem?_range hil] at hv
          rw [← er]
          exact (Option.some.inj hv).symm
        have sq := ((s3.trans s5).trans (Same.new (o := .tup [.int (i : Nat), .int r]) ht)).seqT ha2
        have st := Same.new (o := .tup [.int (i : Nat), .int r]) ht
        rw [exs] at sq
        refine ⟨t, _, rfl, SqT.of upd_same, rfl, _, _, rfl, _, _, rfl, rfl, ?_⟩
        refine ⟨_, rfl, .inr (.inl ⟨rfl, _, sq⟩), _, rfl, a2, hs.map optOf, _, rfl, rfl, sq, _, rfl, _, _, rfl, rfl, ?_⟩
        rw [ev] at hQ'
        exact hQ' _ _ ⟨_, _, rfl⟩ st
      · rintro H5 s5 z hz
        refine ⟨z, _, rfl, SqL.of upd_same, ?_⟩
        rw [List.all_map]
        exact k _ ((s1.trans s3).trans (s5.trans (Same.new hz)))
end
end Ab
set_option Elab.async false
set_option linter.all false
set_option maxRecDepth 100000
namespace L2
theorem Same.wr {H H' : Hp} {a : PySem.Addr} {u : HO} (e : Same H H') (h : H a = none) : Same H (upd H' a u) := fun b o q => by
  rw [upd_ne (fun z => by rw [z, h] at q; cases q)]
  exact e b o q
end L2
namespace Ab
open PySem L2
theorem ixN_of {n : Nat} {k : Int} (h0 : 0 ≤ k) (h1 : k < n) : ixN n k = some k.toNat := by
  unfold ixN
  rw [if_pos h0, if_pos (by omega)]
def leftL (rs : List Int) (os : List (Option Int)) : List Int := (List.range rs.length).map fun i => rs.getD i 0 - ((os.count (some (i : Int)) : Nat) : Int)
theorem leftL_len (rs : List Int) (os : List (Option Int)) : (leftL rs os).length = rs.length := by unfold leftL; rw [List.length_map, List.length_range]
theorem leftL_at {rs : List Int} {os : List (Option Int)} {i : Nat} (h : i < rs.length) : (leftL rs os)[i]? = some (rs.getD i 0 - ((os.count (some (i : Int)) : Nat) : Int)) := by
  unfold leftL
  rw [List.getElem?_map, List.getElem?_range h]; rfl
theorem leftL_nil (rs : List Int) : leftL rs [] = rs := by
  apply List.ext_getElem?
  intro i
  by_cases h : i < rs.length
  · rw [leftL_at h, List.getD_eq_getElem?_getD, List.getElem?_eq_getElem h]
    simp
  · rw [List.getElem?_eq_none (by rw [leftL_len]; omega), List.getElem?_eq_none (by omega)]
theorem leftL_none (rs : List Int) (os : List (Option Int)) : leftL rs (os ++ [none]) = leftL rs os := by
  unfold leftL
  refine List.map_congr_left fun i _ => ?_
  rw [List.count_append]
  simp
theorem leftL_some {rs : List Int} {os : List (Option Int)} {j : Int} (h0 : 0 ≤ j) (h1 : j < rs.length) : leftL rs (os ++ [some j]) = (leftL rs os).set j.toNat (rs.getD j.toNat 0 - ((os.count (some j) : Nat) : Int) - 1) := by
  have ej : ((j.toNat : Nat) : Int) = j := by omega
  apply List.ext_getElem?
  intro i
  by_cases h : i < rs.length
  · rw [leftL_at h, List.getElem?_set, List.count_append]
    by_cases z : j.toNat = i
    · subst z
      rw [if_pos rfl, if_pos (by rw [leftL_len]; exact h), ej]
      congr 1
      simp
      omega
    · rw [if_neg z, leftL_at h]
      have : ¬ j = (i : Int) := by omega
      simp [this]
  · rw [List.getElem?_eq_none (by rw [leftL_len]; omega), List.getElem?_eq_none (by rw [List.length_set, leftL_len]; omega)]
section
variable {P : Program} {w : World} {K : PySem.W.Frag} {mg : Str → Option Value} {base : Heap}
theorem scDealt : FnScope ["book", "rooms", "deal", "counts", "one", "able"] ["book", "rooms", "deal"] (defScope sDealt) := ⟨rfl, rfl, rfl, by decide +kernel, rfl, by decide +kernel, by decide +kernel⟩
theorem ok_dealt {f : Addr} {fd : FuncData} (G : Fn K mg "_law_b_is_dealt" sDealt ["book", "rooms", "deal"] f fd) (B : Bl mg) : FnOk P w K mg base CX0 1 f fd ["book", "rooms", "deal"] (spInR K) := by
  refine G.fn.ok scDealt (fun vs H Q E h => ?_) (fun cdv A outer s H vs Q E hr h => ?_)
  · obtain ⟨x, q, y, n, ws, rs, d, rfl, _⟩ := h
    rfl
  · obtain ⟨x, q, y, n, ws, rs, d, rfl, hx, hb, hq, hro, hd, k⟩ := h
    refine ⟨_, (pss_cons (ps_if (PW.pt (pw_or (pt_not (pt_val (pe_callB call_isi_tuple rfl B.isinstance b_isi (pa_cons (pv 2) (pa_cons (pe_bltn (v := .ty "tuple") rfl B.tuple b_tuple rfl) pa_nil))))) (pw_or1 (pt_cmpR op_ne (pe_callB call_len_seq rfl B.len b_len (pa_cons (pv 2) pa_nil)) (pe_callB call_len_seq rfl B.len b_len (pa_cons (pe_ix ix_tup (pv 0) pe_int (fun _ _ => rfl)) pa_nil)) (nomark _)))))
      (pss_one (ps_ret pe_bl))
      pss_nil)
    (pss_cons (ps_set (i := 3) scDealt.nd rfl (Or.inl rfl) (pe_callTy call_list_of rfl B.list b_list (pa_cons (pv 1) pa_nil)))
    (pss_cons (ps_for PassesOwn.never rfl (pi_zip .t .t rfl B.zip (pa_cons (pv 2) (pa_cons (pe_ix ix_tup (pv 0) pe_int (fun _ _ => rfl)) pa_nil))) (pg_tup rfl (pgs_cons (pg_name (i := 4) scDealt.nd rfl (Or.inl rfl)) (pgs_cons (pg_name (i := 5) scDealt.nd rfl (Or.inl rfl)) pgs_nil)))
      (pss_one (ps_if (pt_cmpR op_notN (pv 4) pe_non (nomark _))
      (pss_cons (ps_if (PW.pt (pw_or (pt_not (pt_val (pe_callB call_isi_int rfl B.isinstance b_isi (pa_cons (pv 4) (pa_cons (pe_bltn (v := .ty "int") rfl B.int b_int rfl) pa_nil))))) (pw_or (pt_val (pe_callB call_isi_bool rfl B.isinstance b_isi (pa_cons (pv 4) (pa_cons (pe_bltn (v := .ty "bool") rfl B.bool b_bool rfl) pa_nil)))) (pw_or1 (pt_cmpR op_notIn_seq (pv 4) (pv 5) (by with_unfolding_all rfl))))))
      (pss_one (ps_ret pe_bl))
      pss_nil)
    (pss_one (ps_asg (pe_op op_sub (pe_ix ix_list (pv 3) (pv 4) (fun _ _ => rfl)) pe_int) (pg_sub (pv 3) (pv 4) set_list))))
      pss_nil)))
    (pss_one (ps_ret (pe_callB (call_all rfl) rfl B.all b_all (pa_cons (pe_comp (own := ["left"]) (fr := []) (frn := []) (compOk_of (defScope sDealt) ["book", "rooms", "deal", "counts", "one", "able"] rfl rfl (by decide +kernel)) rfl (pi_list (pv 3))
        (fun _ _ _ _ => (pg_name (i := 0) (show (["left"] : List Str).Nodup by decide +kernel) rfl (Or.inl rfl))) (fun _ _ _ _ => pf_nil)
        (fun _ _ _ _ => (pe_cmpR op_ge (pv 0) pe_int (nomark _)))) pa_nil))))))), ?_⟩
    obtain ⟨hn1, hn6, hw12, hws⟩ := book_parts hb
    have s1 := Same.refl H
    obtain ⟨H1, hH1⟩ : ∃ H1, H1 = H := ⟨_, rfl⟩
    have s1 : Same H H1 := by rw [hH1]; exact Same.refl _
    rw [← hH1]
    obtain ⟨a, b, ys, rfl, ha, hb2, hys⟩ := den_book (s1.den _ _ hx)
    have hlw := denAll_length hys
    rw [List.length_map] at hlw
    have hd1 := s1.den _ _ hd
    have hq1 := s1.seqT hq
    refine ⟨_, rfl, y, kdOf d, rfl, hd1.kd, _, rfl, ?_⟩
    refine ite2 (fun c => ?_) (fun c => ?_)
    · refine iteT ?_
      have e : false = inRoomsB ws rs d := by cases d <;> first | rfl | (exfalso; simp [kdOf] at c)
      rw [← e] at k; exact k H1 s1
    obtain ⟨hs, rfl⟩ : ∃ hs, d = .tuple hs := by cases d <;> first | exact ⟨_, rfl⟩ | (exfalso; simp [kdOf] at c)
    obtain ⟨a2, xs, rfl, ha2, hxs⟩ := den_tuple.mp hd1
    have hlx := denAll_length hxs
    refine ⟨_, rfl, a2, xs, rfl, .inr ha2, _, rfl, a, _, 1, .ref b, rfl, rfl, ha, rfl, b, ys, rfl, .inr hb2, rfl, _, rfl, ?_⟩
    refine ite2 (fun c2 => ?_) (fun c2 => ?_)
    · have e : inRoomsB ws rs (.tuple hs) = false := by
        show (decide (hs.length = ws.length) && _) = false
        rw [decide_eq_false]
        · rfl
        · intro z
          have : (V.int (xs.length : Int) = V.int (ys.length : Int)) := by rw [hlx, hlw, z]
          simp [this] at c2
      rw [e] at k; exact k H1 s1
    have heq : xs.length = ys.length := by
      have : V.int (xs.length : Int) = V.int (ys.length : Int) := by simpa using c2
      injection this with this
      omega
    have hfalse : ∀ (i : Nat) du l, hs[i]? = some du → ws[i]? = some l → roomIn du l = false → inRoomsB ws rs (.tuple hs) = false := fun i du l h1 h2 h3 => by
      have e : (hs.zip ws).all (fun p => roomIn p.1 p.2) = false := by
        rw [← Bool.not_eq_true, List.all_eq_true]
        intro z
        have := z (du, l) (List.mem_of_getElem? (i := i) (by rw [List.getElem?_zip_eq_some]; exact ⟨h1, h2⟩))
        rw [h3] at this; cases this
      show (_ && (_ && _)) = false
      rw [e, Bool.false_and, Bool.and_false]
    refine ⟨_, rfl, q, _, rfl, .inr hq1, fun cp hcp => ?_⟩
    have s2 := Same.new (o := .lst (rs.map V.int)) hcp
    have e2 : upd H1 cp (.lst (rs.map V.int)) cp = some (.lst (rs.map V.int)) := upd_same
    generalize upd H1 cp (.lst (rs.map V.int)) = H2 at s2 e2 ⊢
    have hlen : hs.length = ws.length := by omega
    refine ⟨_, rfl, _, rfl, a, _, 1, .ref b, rfl, rfl, s2.seqT ha, rfl, a2, b, _, _, rfl, s2.seqT ha2, s2.seqT hb2, for_zip (K := K) (k1 := .t) (k2 := .t) (a := a2) (b := b) (xs := xs) (ys := ys) (fun i σ H3 => (∃ v4 v5, σ = [some (.ref a), some (.ref q), some (.ref a2), some (.ref cp), v4, v5]) ∧ Same H1 H3 ∧ H3 cp = some (.lst ((leftL rs ((hs.take i).map optOf)).map V.int)) ∧ ∀ (j : Nat) du l, j < i → hs[j]? = some du → ws[j]? = some l → roomIn du l = true)
      heq ⟨⟨_, _, rfl⟩, s2, by rw [List.take_zero, List.map_nil, leftL_nil]; exact e2, fun j _ _ hj => absurd hj (Nat.not_lt_zero _)⟩ (fun i σ H3 _ ⟨_, s3, _⟩ => ⟨s3.seqT ha2, s3.seqT hb2⟩) ?_ ?_⟩
    · rintro i u v t σ H3 hu hv ⟨⟨v4, v5, rfl⟩, s3, e3, hall⟩ ht
      obtain ⟨du, hdu, denu⟩ := denAll_at hxs hu
      obtain ⟨dv, hdv, denv⟩ := denAll_at hys hv
      rw [List.getElem?_map] at hdv
      obtain ⟨l, hl, rfl⟩ : ∃ l, ws[i]? = some l ∧ workD l = dv := by
        cases q : ws[i]? with
        | none => rw [q] at hdv; cases hdv
        | some l => rw [q] at hdv; exact ⟨l, rfl, Option.some.inj hdv⟩
      obtain ⟨aw, rfl, haw⟩ := den_tints.mp denv
      have st := Same.new (o := .tup [u, .ref aw]) ht
      have s4 := s3.trans st
      have e4 := st _ _ e3
      have et : upd H3 t (.tup [u, .ref aw]) t = some (.tup [u, .ref aw]) := upd_same
      generalize upd H3 t (.tup [u, .ref aw]) = H4 at st s4 e4 et ⊢
      have next : roomIn du l = true → ∀ (j : Nat) du l, j < i + 1 → hs[j]? = some du → ws[j]? = some l → roomIn du l = true := fun h j du' l' hj h1 h2 => by
        by_cases z : j = i
        · subst z
          rw [hdu] at h1; rw [hl] at h2
          rw [← Option.some.inj h1, ← Option.some.inj h2]; exact h
        · exact hall j du' l' (by omega) h1 h2
      have etk : (hs.take (i + 1)).map optOf = (hs.take i).map optOf ++ [optOf du] := by rw [List.take_succ, hdu, List.map_append]; rfl
      refine ⟨t, _, rfl, SqT.of et, rfl, _, _, rfl, _, _, rfl, rfl, ?_⟩
      refine ⟨_, rfl, rfl, _, rfl, ?_⟩
      by_cases hnon : du = .none
      · subst hnon
        obtain rfl := den_none.mp denu
        refine iteF ?_
        exact ⟨⟨_, _, rfl⟩, s4, by rw [etk, show optOf .none = none from rfl, leftL_none]; exact e4, next rfl⟩
      · have hun : u ≠ .non := fun z => by
          subst z
          cases du <;> first | exact hnon rfl | (simp [Den] at denu) | (cases denu)
        rw [decide_eq_false hun]
        refine iteT ?_
        have kd4 := (s4.den _ _ denu).kd
        refine ⟨_, rfl, u, kdOf du, rfl, kd4, _, rfl, ?_⟩
        refine ite2 (fun c3 => ?_) (fun c3 => ?_)
        · have e : roomIn du l = false := by cases du <;> first | rfl | exact absurd rfl hnon | (exfalso; simp [kdOf] at c3)
          refine iteT ?_
          rw [hfalse i _ l hdu hl e] at k
          exact k _ (s1.trans s4)
        · refine ⟨_, rfl, u, kdOf du, rfl, kd4, _, rfl, ?_⟩
          refine ite2 (fun c4 => ?_) (fun c4 => ?_)
          · have e : roomIn du l = false := by cases du <;> first | rfl | exact absurd rfl hnon | (exfalso; simp [kdOf] at c4)
            refine iteT ?_
            rw [hfalse i _ l hdu hl e] at k
            exact k _ (s1.trans s4)
          · obtain ⟨j, rfl⟩ : ∃ j, du = .int j := by cases du <;> first | exact ⟨_, rfl⟩ | (exfalso; simp [kdOf] at c4; done) | (exfalso; simp [kdOf] at c3; done)
            obtain rfl := den_int.mp denu
            refine ⟨_, rfl, _, rfl, aw, _, rfl, .inr (s4.seqT haw), rfl, flat_ints l, _, rfl, ?_⟩
            cases hany : l.any (· == j) with
            | false =>
              rw [(in_ints j l).trans hany]
              refine iteT ?_
              rw [hfalse i _ l hdu hl hany] at k
              exact k _ (s1.trans s4)
            | true =>
              rw [(in_ints j l).trans hany]
              refine iteF ?_
              obtain ⟨w1, w2, w3⟩ := work_parts (hws l (List.mem_of_getElem? hl))
              have hjm : j ∈ l := by
                obtain ⟨z, hz, ez⟩ := List.any_eq_true.mp hany
                rw [← eq_of_beq ez]; exact hz
              obtain ⟨j0, j1⟩ := w2 j hjm
              have hjr : j < rs.length := by rw [hro.1]; omega
              have hat : atI ((leftL rs ((hs.take i).map optOf)).map V.int) j = some (.int (rs.getD j.toNat 0 - ((((hs.take i).map optOf).count (some j) : Nat) : Int))) := by
                have e := atI_nat (xs := (leftL rs ((hs.take i).map optOf)).map V.int) (j := j.toNat) (v := .int (rs.getD j.toNat 0 - ((((hs.take i).map optOf).count (some j) : Nat) : Int))) (by
                  rw [List.getElem?_map, leftL_at (show j.toNat < rs.length by omega), show ((j.toNat : Nat) : Int) = j by omega]; rfl)
                rwa [show ((j.toNat : Nat) : Int) = j by omega] at e
              refine ⟨_, rfl, _, rfl, cp, _, j, _, rfl, rfl, SqL.of e4, hat, _, _, rfl, rfl, _, rfl, _, rfl, cp, _, j, j.toNat, rfl, rfl, e4, ?_, ?_⟩
              · exact ixN_of j0 (by rw [List.length_map, leftL_len]; exact hjr)
              refine ⟨⟨_, _, rfl⟩, s4.wr hcp, ?_, next hany⟩
              rw [upd_same, etk, show optOf (.int j) = some j from rfl, leftL_some j0 hjr, List.map_set]
    · rintro σ H3 ⟨⟨v4, v5, rfl⟩, s3, e3, hall⟩
      rw [List.take_of_length_le (show hs.length ≤ xs.length by omega)] at e3
      have hallT : (hs.zip ws).all (fun p => roomIn p.1 p.2) = true := by
        rw [List.all_eq_true]
        intro p hp
        obtain ⟨j, hj⟩ := List.mem_iff_getElem?.mp hp
        rw [List.getElem?_zip_eq_some] at hj
        have hjl := (List.getElem?_eq_some_iff.mp hj.1).1
        exact hall j _ _ (by omega) hj.1 hj.2
      have ek : inRoomsB ws rs (.tuple hs) = fitsB (hs.map optOf) rs := by
        show (decide (hs.length = ws.length) && (_ && _)) = _
        rw [decide_eq_true hlen, hallT, Bool.true_and, Bool.true_and]
      rw [ek] at k
      refine ⟨_, rfl, cp, rfl, ⟨_, SqL.of e3⟩, comp_fnL (K := K) (a := cp) (xs := (leftL rs (hs.map optOf)).map V.int) (vs := ((List.range rs.length).map fun i => decide ((((hs.map optOf).count (some ((i : Nat) : Int)) : Nat) : Int) ≤ rs.getD i 0)).map V.bl) (fun σ => ∃ v0, σ = [v0]) (by rw [List.length_map, leftL_len, hro.1]; omega) (by rw [List.length_map, List.length_map, List.length_range, List.length_map, leftL_len]) (SqL.of e3) ⟨none, rfl⟩ ?_ ?_⟩
      · rintro i xv v σ H5 hxv hv ⟨v0, rfl⟩ s5 Q' hQ'
        obtain ⟨r, hr', rfl⟩ := of_map hxv
        have hil := (List.getElem?_eq_some_iff.mp hr').1
        rw [leftL_len] at hil
        rw [leftL_at hil] at hr'
        have er := Option.some.inj hr'
        have ev : v = V.bl (decide (0 ≤ r)) := by
          rw [List.getElem?_map, List.getElem?_map, List.getElem?_range hil] at hv
          have := (Option.some.inj hv).symm
          rw [this]
          show V.bl (decide _) = _
          congr 1
          rw [Bool.eq_iff_iff, decide_eq_true_iff, decide_eq_true_iff]
          omega
        refine ⟨_, rfl, _, _, rfl, rfl, ?_⟩
        rw [ev] at hQ'
        exact hQ' _ _ ⟨_, rfl⟩ (Same.refl _)
      · rintro H5 s5 z hz
        refine ⟨z, _, rfl, SqL.of upd_same, ?_⟩
        rw [List.all_map]
        exact k _ ((s1.trans s3).trans (s5.trans (Same.new hz)))
end
end Ab
set_option Elab.async false
set_option linter.all false
set_option maxRecDepth 100000
namespace Ab
open PySem L2
theorem noDicts_works : ∀ L : List (List Int), noDicts (L.map workD) = true
  | [] => by unfold List.map noDicts; rfl
  | l :: r => by
    rw [List.map_cons]
    unfold noDicts
    rw [noDicts_works r, Bool.and_true]
    exact noDict_tints l
theorem noDict_wt (L : List (List Int)) : noDict (.tuple (L.map workD)) = true := by unfold noDict; exact noDicts_works L
theorem shaped_wt (L : List (List Int)) : SeqAt.shaped (.tuple (L.map workD)) = true := by
  refine shaped_of ?_ ?_
  · unfold PyData.canLay0; exact canLay_map _ canLay_tints L
  · unfold PyData.depth; exact Nat.le_trans (Nat.succ_le_succ (depth_map _ depth_tints L)) (by decide)
theorem eqv_wt (L : List (List Int)) : PyData.eqv (.tuple (L.map workD)) (.tuple (([] : List (List Int)).map workD)) = L.isEmpty := by
  rw [PyData.eqv]
  cases L <;> simp [PyData.eqvAll]
section
variable {P : Program} {w : World} {K : PySem.W.Frag} {mg : Str → Option Value} {base : Heap}
def spOther (K : PySem.W.Frag) : Sp := fun vs H Q _ => ∃ (t a : Addr) (ns : List Int) (x : V) (n : Int) (ws : List (List Int)), vs = [.ref t, x] ∧ Tape K H t a ns ∧ Den K H (bookD n ws) x ∧ isBook (bookD n ws) = true ∧ ∀ p ws' H', But t H H' → Tape K H' t a ns → Den K H' (bookD n ws') (.ref p) → isBook (bookD n ws') = true → Q (.ref p) H'
theorem scOther : FnScope ["tape", "book", "hands", "works", "at"] ["tape", "book"] (defScope sOther) := ⟨rfl, rfl, rfl, by decide +kernel, rfl, by decide +kernel, by decide +kernel⟩
theorem ok_other {f fD : Addr} {fd fdD : FuncData} (G : Fn K mg "_law_b_other" sOther ["tape", "book"] f fd) (B : Bl mg) (GD : Fn K mg "_law_b_digit" sDigit ["tape", "many"] fD fdD) (OD : FnOk P w K mg base CX0 2 fD fdD ["tape", "many"] (spDigit K)) : FnOk P w K mg base CX0 3 f fd ["tape", "book"] (spOther K) := by
  refine G.fn.ok scOther (fun vs H Q E h => ?_) (fun cdv A outer s H vs Q E hr h => ?_)
  · obtain ⟨t, a, ns, x, n, ws, rfl, _⟩ := h
    rfl
  · obtain ⟨t, a, ns, x, n, ws, rfl, hT, hx, hb, k⟩ := h
    have r2 : Room 2 _ := hr
    refine ⟨_, (pss_cons (ps_asg (pv 1) (pg_tup rfl (pgs_cons (pg_name (i := 2) scOther.nd rfl (Or.inl rfl)) (pgs_cons (pg_name (i := 3) scOther.nd rfl (Or.inl rfl)) pgs_nil))))
    (pss_cons (ps_if (pt_cmpR (op_eqD hr.u64) (pv 3) (pe_tup pa_nil) (nomark _))
      (pss_one (ps_ret (pe_tup (pa_cons (pv 2) (pa_cons (pe_tup (pa_cons (pe_tup (pa_cons (pe_op op_sub (pv 2) pe_int) pa_nil)) pa_nil)) pa_nil)))))
      pss_nil)
    (pss_cons (ps_set (i := 4) scOther.nd rfl (Or.inl rfl) (pe_fn GD OD r2 rfl (pa_cons (pv 0) (pa_cons (pe_callB call_len_seq rfl B.len b_len (pa_cons (pv 3) pa_nil)) pa_nil))))
    (pss_one (ps_ret (pe_tup (pa_cons (pv 2) (pa_cons (pe_op op_cat2 (pe_op op_cat2 (pe_slice sl_tup2 (pv 3) po_none (po_some (pv 4))) (pe_tup (pa_cons (pe_tup (pa_cons (pe_fn GD OD r2 rfl (pa_cons (pv 0) (pa_cons (pv 2) pa_nil))) pa_nil)) pa_nil))) (pe_slice sl_tup2 (pv 3) (po_some (pe_op op_add (pv 4) pe_int)) po_none)) pa_nil)))))))), ?_⟩
    obtain ⟨hn1, hn6, hw12, hws⟩ := book_parts hb
    obtain ⟨ba, bb, ys, rfl, ha, hb2, hys⟩ := den_book hx
    have hlw := denAll_length hys
    rw [List.length_map] at hlw
    have facts : ∀ H2, But t H H2 → SqT K H2 ba [.int n, .ref bb] ∧ SqT K H2 bb ys ∧ DenAll K H2 (ws.map workD) ys := fun H2 b => by
      refine ⟨hT.seqT b ha, hT.seqT b hb2, ?_⟩
      obtain ⟨⟨p, q, _, ht⟩, _⟩ := hT
      exact b.denAll ht _ _ (noLists_map _ noList_work ws) hys
    refine ⟨_, rfl, ba, _, rfl, ha, rfl, _, _, rfl, _, _, rfl, rfl, ?_⟩
    refine ⟨_, rfl, size1 (Nat.zero_le _), fun z hz => ?_⟩
    have s1 := Same.new (o := .tup []) hz
    refine ⟨.tuple (ws.map workD), .tuple (([] : List (List Int)).map workD), den_tuple.mpr ⟨bb, ys, rfl, s1.seqT hb2, s1.denAll _ _ hys⟩, den_tuple.mpr ⟨z, [], rfl, SqT.of upd_same, denAll_nil.mpr rfl⟩, noDict_wt _, noDict_wt _, shaped_wt _, shaped_wt _, _, rfl, ?_⟩
    rw [eqv_wt]
    have b1 : But t H (upd H z (.tup [])) := But.of s1
    have T1 := hT.same s1
    generalize upd H z (.tup []) = H1 at s1 b1 T1 ⊢
    refine ite2 (fun c1 => ?_) (fun c1 => ?_)
    · refine ⟨_, rfl, _, rfl, _, _, rfl, rfl, sz1 _, fun p1 hp1 => ⟨sz1 _, fun p2 hp2 => ⟨sz2 _ _, fun p3 hp3 => ?_⟩⟩⟩
      have s2 := Same.new (o := .tup [.int (n - 1)]) hp1
      have s3 := Same.new (o := .tup [.ref p1]) hp2
      have s4 := Same.new (o := .tup [.int n, .ref p2]) hp3
      have sf := (s2.trans s3).trans s4
      refine k p3 [[n - 1]] _ (b1.trans (But.of sf)) (T1.same sf) (den_bookI (ys := [.ref p1]) (SqT.of upd_same) (SqT.of (s4 _ _ upd_same)) (denAll_cons.mpr ⟨_, _, rfl, den_tints.mpr ⟨p1, rfl, SqT.of (s4 _ _ (s3 _ _ upd_same))⟩, denAll_nil.mpr rfl⟩)) (book_of hn1 hn6 (by simp) fun l hl => ?_)
      rw [List.mem_singleton.mp hl]
      exact work_of (by simp) (fun y hy => by rw [List.mem_singleton.mp hy]; omega) (by simp)
    · have hne : ws ≠ [] := fun z => by subst z; exact c1 rfl
      have hpos : 0 < ws.length := List.length_pos_iff.mpr hne
      have S1 := facts H1 b1
      refine ⟨_, rfl, _, rfl, bb, _, rfl, .inr S1.2.1, t, a, ns, _, rfl, T1, by omega, by omega, fun r3 H3 h30 h31 b3' T3 => ?_⟩
      have b3 := b1.trans b3'
      have S3 := facts H3 b3
      obtain ⟨m, rfl⟩ : ∃ m : Nat, r3 = m := ⟨r3.toNat, by omega⟩
      have hmw : m < ws.length := by omega
      refine ⟨_, rfl, _, rfl, _, rfl, _, rfl, bb, ys, rfl, S3.2.1, fun p1 H4 s4 hp1 => ?_⟩
      rw [cutV_to] at hp1
      refine ⟨_, rfl, _, rfl, t, a, ns, n, rfl, T3.same s4, by omega, by omega, fun h H5 h50 h51 b5' T5 => ⟨sz1 _, fun q hq => ⟨sz1 _, fun p2 hp2 => ?_⟩⟩⟩
      have T4 := T3.same s4
      have s6 := (Same.new (o := .tup [.int h]) hq).trans (Same.new (o := .tup [.ref q]) hp2)
      have b5 := (b3.trans (But.of s4)).trans b5'
      have hp15 := T4.seqT b5' hp1
      have q6 : SqT K (upd (upd H5 q (.tup [.int h])) p2 (.tup [.ref q])) q (([h] : List Int).map V.int) := SqT.of ((Same.new hp2) _ _ upd_same)
      have p26 : SqT K (upd (upd H5 q (.tup [.int h])) p2 (.tup [.ref q])) p2 [.ref q] := SqT.of upd_same
      have hp16 := s6.seqT hp15
      have b6 := b5.trans (But.of s6)
      have T6 := T5.same s6
      generalize upd (upd H5 q (.tup [.int h])) p2 (.tup [.ref q]) = H6 at s6 q6 p26 hp16 b6 T6 ⊢
      refine ⟨p1, p2, _, _, rfl, rfl, hp16, p26, ?_, fun p3 H8 s8 hp3 => ?_⟩
      · rw [List.length_take, sizeLine_eq]; simp; omega
      have S8 := facts H8 (b6.trans (But.of s8))
      refine ⟨_, rfl, _, rfl, _, _, rfl, rfl, _, rfl, bb, ys, rfl, S8.2.1, fun p4 H9 s9 hp4 => ?_⟩
      have hp4' : SqT K H9 p4 (ys.drop (m + 1)) := by
        have e := cutV_from ys (m + 1)
        rw [← e]
        exact hp4
      refine ⟨p3, p4, _, _, rfl, rfl, s9.seqT hp3, hp4', ?_, fun p5 H10 s10 hp5 => ⟨sz2 _ _, fun p6 hp6 => ?_⟩⟩
      · rw [List.length_append, List.length_take, List.length_drop, sizeLine_eq]; simp; omega
      have s6f := s8.trans (s9.trans (s10.trans (Same.new (o := .tup [V.int n, .ref p5]) hp6)))
      have bf := b6.trans (But.of s6f)
      have Sf := facts _ bf
      have ews : ws.take m ++ [[h]] ++ ws.drop (m + 1) = ws.set m [h] := by
        rw [List.set_eq_take_append_cons_drop, if_pos hmw]; simp
      refine k p6 (ws.set m [h]) _ bf (T6.same s6f) (den_bookI (SqT.of upd_same) ((Same.new hp6).seqT hp5) ?_) (book_of hn1 hn6 (by rw [List.length_set]; exact hw12) fun l2 hl2 => ?_)
      · rw [← ews, List.map_append, List.map_append, List.map_take, List.map_drop]
        exact denAll_append (denAll_append (denAll_take m Sf.2.2) (denAll_cons.mpr ⟨_, _, rfl, den_tints.mpr ⟨q, rfl, s6f.seqT q6⟩, denAll_nil.mpr rfl⟩)) (denAll_drop (m + 1) Sf.2.2)
      · rcases List.mem_or_eq_of_mem_set hl2 with z | z
        · exact hws l2 z
        · rw [z]; exact work_of (by simp) (fun y hy => by rw [List.mem_singleton.mp hy]; exact ⟨h50, h51⟩) (by simp)
end
end Ab
set_option Elab.async false
set_option linter.all false
set_option maxRecDepth 100000
namespace Ab
open PySem L2
section
variable {P : Program} {w : World} {K : PySem.W.Frag} {mg : Str → Option Value} {base : Heap}
def DealO (n : Int) (ws : List (List Int)) (os : List (Option Int)) : Prop := os.length = ws.length ∧ ∀ i, some i ∈ os → 0 ≤ i ∧ i < n
def spPut (K : PySem.W.Frag) : Sp := fun vs H Q _ => ∃ (t a : Addr) (ns : List Int) (x : V) (q : Addr) (n : Int) (ws : List (List Int)) (rs : List Int), vs = [.ref t, x, .ref q] ∧ Tape K H t a ns ∧ Den K H (bookD n ws) x ∧ isBook (bookD n ws) = true ∧ SqT K H q (rs.map V.int) ∧ RoomsOk n rs ∧ ∀ p os H', But t H H' → Tape K H' t a ns → SqT K H' p (os.map oV) → DealO n ws os → Q (.ref p) H'
theorem scPut : FnScope ["tape", "book", "rooms", "counts", "deal", "able", "fit", "one"] ["tape", "book", "rooms"] (defScope sPut) := ⟨rfl, rfl, rfl, by decide +kernel, rfl, by decide +kernel, by decide +kernel⟩
theorem ok_put {f fD : Addr} {fd fdD : FuncData} (G : Fn K mg "_law_b_put" sPut ["tape", "book", "rooms"] f fd) (B : Bl mg) (GD : Fn K mg "_law_b_digit" sDigit ["tape", "many"] fD fdD) (OD : FnOk P w K mg base CX0 2 fD fdD ["tape", "many"] (spDigit K)) : FnOk P w K mg base CX0 3 f fd ["tape", "book", "rooms"] (spPut K) := by
  refine G.fn.ok scPut (fun vs H Q E h => ?_) (fun cdv A outer s H vs Q E hr h => ?_)
  · obtain ⟨t, a, ns, x, q, n, ws, rs, rfl, _⟩ := h
    rfl
  · obtain ⟨t, a, ns, x, q, n, ws, rs, rfl, hT, hx, hb, hq, hro, k⟩ := h
    have r2 : Room 2 _ := hr
    refine ⟨_, (pss_cons (ps_set (i := 3) scPut.nd rfl (Or.inr rfl) (pe_callTy call_list_of rfl B.list b_list (pa_cons (pv 2) pa_nil)))
    (pss_cons (ps_set (i := 4) scPut.nd rfl (Or.inl rfl) (pe_tup pa_nil))
    (pss_cons (ps_for PassesOwn.never rfl (pi_tup (pe_ix ix_tup (pv 1) pe_int (fun _ _ => rfl))) (pg_name (i := 5) scPut.nd rfl (Or.inl rfl))
      (pss_cons (ps_setcomp (i := 6) (own := ["hand"]) (fr := [3]) (frn := ["counts"]) (compOk_of (defScope sPut) ["tape", "book", "rooms", "counts", "deal", "able", "fit", "one"] rfl rfl (by decide +kernel)) rfl scPut.nd rfl rfl rfl (pi_tup (pv 5))
        (fun _ _ _ _ => (pg_name (i := 0) (show (["hand", "counts"] : List Str).Nodup by decide +kernel) rfl (Or.inl rfl))) (fun _ _ _ _ => pf_one (pt_cmpR op_gt (pe_ix (ix_listK (K := K) rfl) (pv 1) (pv 0) (fun _ _ => rfl)) pe_int (nomark _)))
        (fun _ _ _ _ => (pv 0)))
    (pss_cons (ps_set (i := 7) scPut.nd rfl (Or.inl rfl) pe_non)
    (pss_cons (ps_if (PW.pt (pw_and (pt_cmpR (op_neD hr.u64) (pv 6) (pe_lst pa_nil) (nomark _)) (pw_and1 (pt_cmpR op_gt (pe_fn GD OD r2 rfl (pa_cons (pv 0) (pa_cons pe_int pa_nil))) pe_int (nomark _)))))
      (pss_cons (ps_set (i := 7) scPut.nd rfl (Or.inl rfl) (pe_ix ix_list (pv 6) (pe_fn GD OD r2 rfl (pa_cons (pv 0) (pa_cons (pe_callB call_len_seq rfl B.len b_len (pa_cons (pv 6) pa_nil)) pa_nil))) (fun _ _ => rfl)))
    (pss_one (ps_asg (pe_op op_sub (pe_ix ix_list (pv 3) (pv 7) (fun _ _ => rfl)) pe_int) (pg_sub (pv 3) (pv 7) set_list))))
      pss_nil)
    (pss_one (ps_set (i := 4) scPut.nd rfl (Or.inl rfl) (pe_op op_cat2 (pv 4) (pe_tup (pa_cons (pv 7) pa_nil)))))))))
    (pss_one (ps_ret (pv 4)))))), ?_⟩
    obtain ⟨hn1, hn6, hw12, hws⟩ := book_parts hb
    obtain ⟨ba, bb, ys, rfl, ha, hb2, hys⟩ := den_book hx
    have hlw := denAll_length hys
    rw [List.length_map] at hlw
    have facts : ∀ H2, But t H H2 → SqT K H2 ba [.int n, .ref bb] ∧ SqT K H2 bb ys ∧ DenAll K H2 (ws.map workD) ys := fun H2 b => by
      refine ⟨hT.seqT b ha, hT.seqT b hb2, ?_⟩
      obtain ⟨⟨p, q, _, ht⟩, _⟩ := hT
      exact b.denAll ht _ _ (noLists_map _ noList_work ws) hys
    refine ⟨_, rfl, q, _, rfl, .inr hq, fun cp hcp => ?_⟩
    have s1 := Same.new (o := .lst (rs.map V.int)) hcp
    have e1 : upd H cp (.lst (rs.map V.int)) cp = some (.lst (rs.map V.int)) := upd_same
    have ncp : cp ≠ t := hT.ne hcp
    have F : Far K a cp ns := far_of hT.2 hcp
    generalize upd H cp (.lst (rs.map V.int)) = H1 at s1 e1 ⊢
    refine ⟨size1 (Nat.zero_le _), fun dp hdp => ?_⟩
    have s2 := Same.new (o := .tup []) hdp
    have e2 : upd H1 dp (.tup []) dp = some (.tup []) := upd_same
    have e12 := s2 _ _ e1
    have s3 := s1.trans s2
    generalize upd H1 dp (.tup []) = H2 at s2 e2 e12 s3 ⊢
    have b2 : But t H H2 := But.of s3
    have T2 := hT.same s3
    have S2 := facts H2 b2
    refine ⟨_, rfl, ba, _, 1, .ref bb, rfl, rfl, S2.1, rfl, bb, rfl, ⟨_, S2.2.1⟩, for_tup (K := K) (a := bb) (xs := ys) (fun i σ H3 => ∃ (v5 v6 v7 : Option V) (dp : Addr) (os : List (Option Int)) (cs : List Int), σ = [some (.ref t), some (.ref ba), some (.ref q), some (.ref cp), some (.ref dp), v5, v6, v7] ∧ But t H H3 ∧ Tape K H3 t a ns ∧ H3 cp = some (.lst (cs.map V.int)) ∧ cs.length = rs.length ∧ SqT K H3 dp (os.map oV) ∧ os.length = i ∧ ∀ j, some j ∈ os → 0 ≤ j ∧ j < n)
      ⟨none, none, none, dp, [], rs, rfl, b2, T2, e12, rfl, SqT.of e2, rfl, fun j h => (List.not_mem_nil h).elim⟩ (fun i σ H3 _ ⟨_, _, _, _, _, _, _, b3, _⟩ => (facts H3 b3).2.1) ?_ ?_⟩
    · rintro i u σ H3 hu ⟨v5, v6, v7, dp, os, cs, rfl, b3, T3, e3, hcl, hdp3, hol, hos⟩
      obtain ⟨dv, hdv, denv⟩ := denAll_at (facts H3 b3).2.2 hu
      rw [List.getElem?_map] at hdv
      obtain ⟨l, hl, rfl⟩ : ∃ l, ws[i]? = some l ∧ workD l = dv := by
        cases q : ws[i]? with
        | none => rw [q] at hdv; cases hdv
        | some l => rw [q] at hdv; exact ⟨l, rfl, Option.some.inj hdv⟩
      have hi := (List.getElem?_eq_some_iff.mp hl).1
      obtain ⟨aw, rfl, haw⟩ := den_tints.mp denv
      obtain ⟨w1, w2, w3⟩ := work_parts (hws l (List.mem_of_getElem? hl))
      have hl6 := work_short (by omega) w2 w3
      have hcn : cs.length = n.toNat := by rw [hcl, hro.1]
      have hat : ∀ h ∈ l, atI (cs.map V.int) h = some (.int (cs.getD h.toNat 0)) := fun h hh => by
        obtain ⟨h0, h1⟩ := w2 h hh
        have hlt : h.toNat < cs.length := by omega
        have e := atI_nat (xs := cs.map V.int) (j := h.toNat) (v := .int (cs.getD h.toNat 0)) (by rw [List.getElem?_map, List.getD_eq_getElem?_getD, List.getElem?_eq_getElem hlt]; rfl)
        rwa [show ((h.toNat : Nat) : Int) = h by omega] at e
      refine ⟨_, rfl, aw, rfl, ⟨_, haw⟩, comp_tup (K := K) (a := aw) (xs := l.map V.int) (fun σ => ∃ v, σ = [v, some (.ref cp)]) (fun j zs H4 => Same H3 H4 ∧ ∃ fs : List Int, zs = fs.map V.int ∧ fs.length ≤ j ∧ ∀ h ∈ fs, h ∈ l) (size1 (by rw [List.length_map]; omega)) ⟨none, rfl⟩ ⟨Same.refl _, [], rfl, Nat.zero_le _, fun h hh => (List.not_mem_nil hh).elim⟩ ?_ ?_ ?_ ?_⟩
      · rintro j zs H4 ⟨_, fs, rfl, hf, _⟩
        rw [List.length_map]; exact hf
      · rintro j zs H4 ⟨s4, _⟩
        exact s4.seqT haw
      · rintro j zs σ u H4 hu4 ⟨v0, rfl⟩ ⟨s4, fs, rfl, hfl, hfm⟩ hz
        obtain ⟨h, hh, rfl⟩ := of_map hu4
        have hm := List.mem_of_getElem? hh
        refine ⟨_, rfl, _, rfl, cp, _, h, _, rfl, rfl, SqL.of (s4 _ _ e3), hat h hm, _, _, rfl, rfl, _, rfl, ?_⟩
        refine ite2 (fun c => ?_) (fun c => ?_)
        · refine ⟨_, rfl, hz, ⟨_, rfl⟩, s4, fs ++ [h], by rw [List.map_append]; rfl, by rw [List.length_append]; exact Nat.succ_le_succ hfl, fun y hy => ?_⟩
          rcases List.mem_append.mp hy with hy | hy
          · exact hfm y hy
          · rw [List.mem_singleton.mp hy]; exact hm
        · exact ⟨⟨_, rfl⟩, s4, fs, rfl, by omega, hfm⟩
      · rintro zs H4 ⟨s4, fs, rfl, hfl, hfm⟩ fp hfp
        rw [List.length_map] at hfl
        have nfp : fp ≠ t := (T3.same s4).ne hfp
        have nfc : fp ≠ cp := fun z => by rw [z, s4 _ _ e3] at hfp; cases hfp
        have s5 := s4.trans (Same.new (o := .lst (fs.map V.int)) hfp)
        have e5 : upd H4 fp (.lst (fs.map V.int)) fp = some (.lst (fs.map V.int)) := upd_same
        generalize upd H4 fp (.lst (fs.map V.int)) = H5 at s5 e5 ⊢
        refine ⟨_, rfl, size1 (Nat.zero_le _), fun z hz => ?_⟩
        have s6 := Same.new (o := .lst []) hz
        refine ⟨.list (fs.map .int), .list (([] : List Int).map .int), den_lints.mpr ⟨fp, rfl, s6.seqL (SqL.of e5)⟩, den_lints.mpr ⟨z, rfl, SqL.of upd_same⟩, noDict_ints _, noDict_ints _, shaped_ints _, shaped_ints _, _, rfl, ?_⟩
        rw [eqv_lints]
        have s36 := s5.trans s6
        have e6 := s6 _ _ e5
        generalize upd H5 z (.lst []) = H6 at s6 s36 e6 ⊢
        have b6 : But t H H6 := b3.trans (But.of s36)
        have T6 := T3.same s36
        have hdp6 := s36.seqT hdp3
        have e6c := s36 _ _ e3
        by_cases hfs : fs = []
        · rw [decide_eq_true hfs]
          refine iteF ?_
          refine iteF ?_
          refine ⟨_, rfl, _, rfl, sz1 _, fun z1 hz1 => ?_⟩
          have s9 := Same.new (o := .tup [oV none]) hz1
          refine ⟨dp, z1, _, _, rfl, rfl, s9.seqT hdp6, SqT.of (xs := [oV none]) upd_same, ?_, fun p10 H10 s10 hp10 => ?_⟩
          · rw [List.length_map, hol, sizeLine_eq]; simp; omega
          have sf := s9.trans s10
          refine ⟨_, _, _, p10, os ++ [none], cs, rfl, (b6).trans (But.of sf), (T6).same sf, sf _ _ e6c, hcl, by rw [List.map_append]; exact hp10, by rw [List.length_append, hol]; rfl, fun j hj => ?_⟩
          rcases List.mem_append.mp hj with hj | hj
          · exact hos j hj
          · cases List.mem_singleton.mp hj
        · rw [decide_eq_false hfs]
          refine iteT ?_
          refine ⟨_, rfl, t, a, ns, 5, rfl, T6, by decide, by decide, fun r7 H7 _ _ b7' T7 => ⟨_, _, rfl, rfl, _, rfl, ?_⟩⟩
          have b7 := b6.trans b7'
          have hdp7 := T6.seqT b7' hdp6
          have e7c := b7' cp _ ncp e6c
          have e7 := b7' fp _ nfp e6
          refine ite2 (fun c => ?_) (fun c => ?_)
          · have hpos : 0 < fs.length := List.length_pos_iff.mpr hfs
            refine ⟨_, rfl, _, rfl, _, rfl, fp, _, rfl, .inl (SqL.of e7), t, a, ns, _, rfl, T7, by rw [List.length_map]; omega, by rw [List.length_map]; omega, fun r8 H8 h80 h81 b8' T8 => ?_⟩
            rw [List.length_map] at h81
            have b8 := b7.trans b8'
            have hdp8 := T7.seqT b8' hdp7
            have e8c := b8' cp _ ncp e7c
            have e8 := b8' fp _ nfp e7
            have hlt : r8.toNat < fs.length := by omega
            have hat8 : atI (fs.map V.int) r8 = some (.int fs[r8.toNat]) := by
              have h1 : (fs.map V.int)[r8.toNat]? = some (.int (fs[r8.toNat])) := by rw [List.getElem?_map, List.getElem?_eq_getElem hlt]; rfl
              have h2 := atI_nat h1
              rwa [Int.toNat_of_nonneg h80] at h2
            have hjl := hfm _ (List.getElem_mem hlt)
            generalize fs[r8.toNat] = j at hat8 hjl
            obtain ⟨j0, j1⟩ := w2 j hjl
            refine ⟨fp, _, r8, .int j, rfl, rfl, SqL.of e8, hat8, ?_⟩
            refine ⟨_, rfl, _, rfl, cp, _, j, _, rfl, rfl, SqL.of e8c, hat j hjl, _, _, rfl, rfl, _, rfl, _, rfl, cp, _, j, j.toNat, rfl, rfl, e8c, ?_, ?_⟩
            · exact ixN_of j0 (by rw [List.length_map]; omega)
            rw [← List.map_set]
            have bc : But cp H8 (upd H8 cp (.lst ((cs.set j.toNat (cs.getD j.toNat 0 - 1)).map V.int))) := But.at
            have e9c : upd H8 cp (.lst ((cs.set j.toNat (cs.getD j.toNat 0 - 1)).map V.int)) cp = some (.lst ((cs.set j.toNat (cs.getD j.toNat 0 - 1)).map V.int)) := upd_same
            have T9 := T8.wr bc (Ne.symm ncp) F
            have hdp9 := bc.seqT e8c hdp8
            have b9 : But t H (upd H8 cp (.lst ((cs.set j.toNat (cs.getD j.toNat 0 - 1)).map V.int))) := fun b o nb hb => by
              rw [upd_ne (fun z => by rw [z, hcp] at hb; cases hb)]
              exact b8 b o nb hb
            generalize upd H8 cp (.lst ((cs.set j.toNat (cs.getD j.toNat 0 - 1)).map V.int)) = H9 at bc e9c T9 hdp9 b9 ⊢
            refine ⟨_, rfl, _, rfl, sz1 _, fun z1 hz1 => ?_⟩
            have s9 := Same.new (o := .tup [oV (some j)]) hz1
            refine ⟨dp, z1, _, _, rfl, rfl, s9.seqT hdp9, SqT.of (xs := [oV (some j)]) upd_same, ?_, fun p10 H10 s10 hp10 => ?_⟩
            · rw [List.length_map, hol, sizeLine_eq]; simp; omega
            have sf := s9.trans s10
            refine ⟨_, _, _, p10, os ++ [(some j)], _, rfl, (b9).trans (But.of sf), (T9).same sf, sf _ _ e9c, (by rw [List.length_set]; exact hcl), by rw [List.map_append]; exact hp10, by rw [List.length_append, hol]; rfl, fun j hj => ?_⟩
            rcases List.mem_append.mp hj with hj | hj
            · exact hos j hj
            · obtain rfl := Option.some.inj (List.mem_singleton.mp hj); exact ⟨j0, j1⟩
          · refine ⟨_, rfl, _, rfl, sz1 _, fun z1 hz1 => ?_⟩
            have s9 := Same.new (o := .tup [oV none]) hz1
            refine ⟨dp, z1, _, _, rfl, rfl, s9.seqT hdp7, SqT.of (xs := [oV none]) upd_same, ?_, fun p10 H10 s10 hp10 => ?_⟩
            · rw [List.length_map, hol, sizeLine_eq]; simp; omega
            have sf := s9.trans s10
            refine ⟨_, _, _, p10, os ++ [none], cs, rfl, (b7).trans (But.of sf), (T7).same sf, sf _ _ e7c, hcl, by rw [List.map_append]; exact hp10, by rw [List.length_append, hol]; rfl, fun j hj => ?_⟩
            rcases List.mem_append.mp hj with hj | hj
            · exact hos j hj
            · cases List.mem_singleton.mp hj
    · rintro σ H3 ⟨v5, v6, v7, dp, os, cs, rfl, b3, T3, e3, hcl, hdp3, hol, hos⟩
      exact ⟨_, rfl, k dp os H3 b3 T3 hdp3 ⟨by rw [hol, hlw], hos⟩⟩
end
end Ab
set_option Elab.async false
set_option linter.all false
set_option maxRecDepth 100000
namespace Ab
open PySem L2
section
variable {K : PySem.W.Frag} {S : List Addr} {H H' H0 : Hp}
mutual
theorem Fx.den (f : Fx S H) : ∀ (d : PyData) (v : V), noList d = true → Den K H d v → Den K (Vw S H) d v
  | .none, v, _, h => by unfold Den at h ⊢; exact h
  | .bool b, v, _, h => by unfold Den at h ⊢; exact h
  | .int i, v, _, h => by unfold Den at h ⊢; exact h
  | .str x, v, _, h => by unfold Den at h ⊢; exact h
  | .list ds, v, n, h => by unfold noList at n; cases n
  | .tuple ds, v, n, h => by unfold noList at n; unfold Den at h ⊢; obtain ⟨a, xs, h1, h2, h3⟩ := h; exact ⟨a, xs, h1, f.seqT h2, Fx.denAll f ds xs n h3⟩
  | .dict kvs, v, n, h => by unfold noList at n; cases n
theorem Fx.denAll (f : Fx S H) : ∀ (ds : List PyData) (xs : List V), noLists ds = true → DenAll K H ds xs → DenAll K (Vw S H) ds xs
  | [], xs, _, h => by unfold DenAll at h ⊢; exact h
  | d :: ds, xs, n, h => by
    unfold noLists at n; rw [Bool.and_eq_true] at n
    unfold DenAll at h ⊢; obtain ⟨x, r, h1, h2, h3⟩ := h; exact ⟨x, r, h1, Fx.den f d x n.1 h2, Fx.denAll f ds r n.2 h3⟩
end
def LvD (m : Nat) (d : PyData) : Prop := d.showable = true ∧ d.depth ≤ m ∧ d.shown.length ≤ 40 * 20 ^ m
def Dl (K : PySem.W.Frag) (S : List Addr) (m : Nat) (H : Hp) (x : V) : Prop := ∃ d, Den K (Vw S H) d x ∧ LvD m d
instance {m : Nat} : Mo (Dl K S m) := ⟨fun e ⟨d, h, l⟩ => ⟨d, (Vw.same e).den _ _ h, l⟩⟩
theorem Dl.keep {m : Nat} {x : V} (h : Dl K S m H x) (e : Same (Vw S H) (Vw S H')) : Dl K S m H' x := let ⟨d, h, l⟩ := h; ⟨d, e.den _ _ h, l⟩
theorem LvD.up {m m' : Nat} {d : PyData} (h : LvD m d) (l : m ≤ m') : LvD m' d := ⟨h.1, Nat.le_trans h.2.1 l, Nat.le_trans h.2.2 (Nat.mul_le_mul (Nat.le_refl _) (Nat.pow_le_pow_right (by decide) l))⟩
theorem Dl.up {m m' : Nat} {x : V} (h : Dl K S m H x) (l : m ≤ m' := by decide) : Dl K S m' H x := let ⟨d, h, q⟩ := h; ⟨d, h, q.up l⟩
theorem lv_int {i : Int} (h : i.natAbs < 10 ^ 38) : LvD 0 (.int i) := by
  refine ⟨?_, by unfold PyData.depth; exact Nat.le_refl _, ?_⟩
  · unfold PyData.showable
    refine decide_eq_true ?_
    by_cases z : i.natAbs = 0
    · rw [z]; decide
    · have : i.natAbs.log2 < 128 := (Nat.log2_lt z).mpr (Nat.lt_of_lt_of_le h (by decide))
      omega
  · have e := int_text_length_le10 (a := i) (k := 38) (by decide) h
    rw [PyData.shown]
    show (Str.ofString (toString i)).length ≤ _
    rw [ofString_length]
    omega
theorem dl_int {i : Int} (h : i.natAbs < 10 ^ 38) : Dl K S 0 H (.int i) := ⟨.int i, den_int.mpr rfl, lv_int h⟩
theorem dl_bl (b : Bool) : Dl K S 0 H (.bl b) := ⟨.bool b, den_bool.mpr rfl, by cases b <;> exact ⟨by decide +kernel, by decide +kernel, by decide +kernel⟩⟩
theorem dl_non : Dl K S 0 H .non := ⟨.none, den_none.mpr rfl, by decide +kernel, by decide +kernel, by decide +kernel⟩
theorem dl_str {x : Str} (h : (PyData.str x).shown.length ≤ 40) : Dl K S 0 H (.str x) := ⟨.str x, den_str.mpr rfl, by rw [PyData.showable], by unfold PyData.depth; exact Nat.le_refl _, h⟩
theorem dl_dict {a : Addr} (h : Vw S H a = some (.dK [])) : Dl K S 1 H (.ref a) := ⟨.dict [], den_dict.mpr ⟨rfl, a, rfl, h⟩, by decide +kernel, by decide +kernel, by decide +kernel⟩
theorem dl_all {m : Nat} : ∀ {xs : List V}, (∀ x ∈ xs, Dl K S m H x) → ∃ ds, DenAll K (Vw S H) ds xs ∧ ∀ d ∈ ds, LvD m d
  | [], _ => ⟨[], denAll_nil.mpr rfl, fun _ h => (List.not_mem_nil h).elim⟩
  | x :: r, h => by
    obtain ⟨d, hd, ld⟩ := h x (List.mem_cons_self ..)
    obtain ⟨ds, hds, lds⟩ := dl_all (xs := r) fun y hy => h y (List.mem_cons_of_mem _ hy)
    refine ⟨d :: ds, denAll_cons.mpr ⟨x, r, rfl, hd, hds⟩, fun e he => ?_⟩
    rcases List.mem_cons.mp he with rfl | he
    · exact ld
    · exact lds e he
theorem depthAll_le {m : Nat} : ∀ {ds : List PyData}, (∀ d ∈ ds, d.depth ≤ m) → PyData.depthAll ds ≤ m
  | [], _ => by unfold PyData.depthAll; exact Nat.zero_le _
  | d :: ds, h => by unfold PyData.depthAll; exact Nat.max_le.mpr ⟨h d (List.mem_cons_self ..), depthAll_le fun e he => h e (List.mem_cons_of_mem _ he)⟩
theorem showableAll_of : ∀ {ds : List PyData}, (∀ d ∈ ds, d.showable = true) → PyData.showableAll ds = true
  | [], _ => by rw [PyData.showableAll]
  | d :: ds, h => by rw [PyData.showableAll, h d (List.mem_cons_self ..), showableAll_of fun e he => h e (List.mem_cons_of_mem _ he)]; rfl
theorem piled_all {m : Nat} {ds : List PyData} (h : ∀ d ∈ ds, d.shown.length ≤ m) : piled (PyData.shownAll ds) ≤ (m + 2) * ds.length := by
  have e := shownAll_map (fun d : PyData => d) ds
  rw [List.map_id'] at e
  rw [e]
  exact piled_map _ m ds h
theorem lv_row {m n k : Nat} (l : k ≤ 3 + (40 * 20 ^ m + 2) * n) (hn : n ≤ 15) : k ≤ 40 * 20 ^ (m + 1) := by
  have h1 : 1 ≤ 20 ^ m := Nat.one_le_pow _ _ (by decide)
  have h2 : (40 * 20 ^ m + 2) * n ≤ (40 * 20 ^ m + 2) * 15 := Nat.mul_le_mul (Nat.le_refl _) hn
  rw [Nat.pow_succ]
  omega
theorem DTe.dl {m n : Nat} {x : V} (h : DTe K S (Dl K S m) n H x) (hn : n ≤ 15 := by decide) : Dl K S (m + 1) H x := by
  obtain ⟨a, xs, rfl, h2, h3, h4⟩ := h
  obtain ⟨ds, hds, lds⟩ := dl_all h4
  have hl := denAll_length hds
  refine ⟨.tuple ds, den_tuple.mpr ⟨a, xs, rfl, h2, hds⟩, ?_, ?_, ?_⟩
  · rw [PyData.showable]; exact showableAll_of fun d hd => (lds d hd).1
  · unfold PyData.depth; exact Nat.succ_le_succ (depthAll_le fun d hd => (lds d hd).2.1)
  · rw [PyData.shown]
    exact lv_row (Nat.le_trans (tuple_len _) (Nat.add_le_add_left (piled_all fun d hd => (lds d hd).2.2) _)) (by omega)
theorem LTe.dl {m n : Nat} {x : V} (h : LTe S (Dl K S m) n H x) (hn : n ≤ 15 := by decide) : Dl K S (m + 1) H x := by
  obtain ⟨a, xs, rfl, h2, h3, h4⟩ := h
  obtain ⟨ds, hds, lds⟩ := dl_all h4
  have hl := denAll_length hds
  refine ⟨.list ds, den_list.mpr ⟨a, xs, rfl, SqL.of h2, hds⟩, ?_, ?_, ?_⟩
  · rw [PyData.showable]; exact showableAll_of fun d hd => (lds d hd).1
  · unfold PyData.depth; exact Nat.succ_le_succ (depthAll_le fun d hd => (lds d hd).2.1)
  · rw [PyData.shown]
    exact lv_row (Nat.le_trans (list_len _) (Nat.le_trans (Nat.add_le_add_left (piled_all fun d hd => (lds d hd).2.2) 2) (by omega))) (by omega : ds.length ≤ 15)
theorem DTe.up {m m' n n' : Nat} {x : V} (h : DTe K S (Dl K S m) n H x) (l : m ≤ m' := by decide) (l' : n ≤ n' := by decide) : DTe K S (Dl K S m') n' H x := let ⟨a, xs, h1, h2, h3, h4⟩ := h; ⟨a, xs, h1, h2, Nat.le_trans h3 l', fun y hy => (h4 y hy).up l⟩
theorem LTe.up {m m' n n' : Nat} {x : V} (h : LTe S (Dl K S m) n H x) (l : m ≤ m' := by decide) (l' : n ≤ n' := by decide) : LTe S (Dl K S m') n' H x := let ⟨a, xs, h1, h2, h3, h4⟩ := h; ⟨a, xs, h1, h2, Nat.le_trans h3 l', fun y hy => (h4 y hy).up l⟩
variable {σ : St} {te ta tb ts : TE} {t tr : TA} {tl th : TO}
theorem Al.up {m m' : Nat} (h : Al H0 S te σ (Dl K S m)) (l : m ≤ m' := by decide) : Al H0 S te σ (Dl K S m') := h.weak fun _ _ r => r.up l
theorem Al.tup {m n : Nat} (h : Al H0 S te σ (DTe K S (Dl K S m) n)) (hn : n ≤ 15 := by decide) : Al H0 S te σ (Dl K S (m + 1)) := h.weak fun _ _ r => DTe.dl r hn
theorem Al.lst {m n : Nat} (h : Al H0 S te σ (LTe S (Dl K S m) n)) (hn : n ≤ 15 := by decide) : Al H0 S te σ (Dl K S (m + 1)) := h.weak fun _ _ r => LTe.dl r hn
theorem Al.upL {m m' n n' : Nat} (h : Al H0 S te σ (LTe S (Dl K S m) n)) (l : m ≤ m' := by decide) (l' : n ≤ n' := by decide) : Al H0 S te σ (LTe S (Dl K S m') n') := h.weak fun _ _ r => LTe.up r l l'
theorem all_bl {m : Nat} {b : Bool} : Al H0 S (tC (.bl b)) σ (Dl K S m) := al_c ((dl_bl b).up (Nat.zero_le _))
theorem all_non {m : Nat} : Al H0 S (tC .non) σ (Dl K S m) := al_c (dl_non.up (Nat.zero_le _))
theorem all_str {m : Nat} {x : Str} (h : (PyData.str x).shown.length ≤ 40 := by decide +kernel) : Al H0 S (tC (.str x)) σ (Dl K S m) := al_c ((dl_str h).up (Nat.zero_le _))
theorem all_dict {m : Nat} (h : 1 ≤ m := by decide) : Al H0 S tDict0 σ (Dl K S m) := fun H s f Q k p hp => k (.ref p) _ (Same.new hp) ((dl_dict (Vw.at f hp)).up h)
theorem alx_c {v : V} : Al H0 S (tC v) σ (fun _ x => x = v) := al_c rfl
theorem alx_var {i : Nat} {v : V} (h : σ[i]? = some (some v)) : Al H0 S (tVar i) σ (fun _ x => x = v) := al_var h rfl
theorem alx_op {g : Int → Int → Int} {i j : Int} (ha : Al H0 S ta σ fun _ v => v = .int i) (hb : Al H0 S tb σ fun _ v => v = .int j) : Al H0 S (tOp (rI0 fun i j => .int (g i j)) ta tb) σ fun _ v => v = .int (g i j) := fun H s f Q k => ha H s f _ fun v H1 s1 e => hb H1 (s.trans s1) (f.same s1) _ fun u H2 s2 e' => ⟨i, j, e, e', k _ H2 (s1.trans s2) rfl⟩
theorem alx_un {g : Int → Int} {i : Int} (h : Al H0 S te σ fun _ v => v = .int i) : Al H0 S (tUn (rU fun i => .int (g i)) te) σ fun _ v => v = .int (g i) := fun H s f Q k => h H s f _ fun v H1 s1 e => ⟨i, e, k _ H1 s1 rfl⟩
theorem Al.int {m : Nat} {i : Int} (h : Al H0 S te σ fun _ v => v = .int i) (hi : i.natAbs < 10 ^ 38) : Al H0 S te σ (Dl K S m) := h.weak fun _ _ r => r ▸ (dl_int hi).up (Nat.zero_le _)
theorem all_int {m : Nat} {i : Int} (hi : i.natAbs < 10 ^ 38 := by decide) : Al H0 S (tC (.int i)) σ (Dl K S m) := al_c ((dl_int hi).up (Nat.zero_le _))
theorem al_to {E : Hp → V → Prop} [M : Mo E] {a : Addr} {xs : List V} {m : Nat} (ha : Al H0 S ta σ fun H v => v = .ref a ∧ SqT K H a xs) (hb : Al H0 S tb σ fun _ v => v = .int m) (he : ∀ y ∈ xs, E H0 y) : Al H0 S (tSl (rSl2 K) ta tNoPart (tPart tb)) σ (DTe K S E m) := fun H s f Q k => ha H s f _ fun v H1 s1 ⟨e, h⟩ => hb H1 (s.trans s1) (f.same s1) _ fun u H2 s2 e' => by
  refine ⟨(m : Int), e', a, xs, e, s2.seqT h, fun p H' s' hp => k _ H' (s1.trans (s2.trans s')) ⟨p, _, rfl, (((f.same s1).same s2).same s').seqT hp, ?_, fun y hy => M.mo (s.trans (s1.trans (s2.trans s'))) (he y (cutV_mem hy))⟩⟩
  rw [cutV_to, List.length_take]
  omega
theorem al_from {E : Hp → V → Prop} [M : Mo E] {a : Addr} {xs : List V} {m : Nat} (ha : Al H0 S ta σ fun H v => v = .ref a ∧ SqT K H a xs) (hb : Al H0 S tb σ fun _ v => v = .int m) (he : ∀ y ∈ xs, E H0 y) : Al H0 S (tSl (rSl2 K) ta (tPart tb) tNoPart) σ (DTe K S E (xs.length - m)) := fun H s f Q k => ha H s f _ fun v H1 s1 ⟨e, h⟩ => hb H1 (s.trans s1) (f.same s1) _ fun u H2 s2 e' => by
  refine ⟨(m : Int), e', a, xs, e, s2.seqT h, fun p H' s' hp => k _ H' (s1.trans (s2.trans s')) ⟨p, _, rfl, (((f.same s1).same s2).same s').seqT hp, ?_, fun y hy => M.mo (s.trans (s1.trans (s2.trans s'))) (he y (cutV_mem hy))⟩⟩
  rw [cutV_from, List.length_drop]
  exact Nat.le_refl _
theorem al_lrng {n : Nat} (ha : Al H0 S ta σ fun _ v => v = .int n) (hn : n ≤ 100) : Al H0 S (tCB (fun xs H Q => ∃ (a : Addr) (n : Nat), xs = [.ref a] ∧ H a = some (.rng 0 n) ∧ n ≤ 1000 ∧ ∀ p, H p = none → Q (.ref p) (upd H p (.lst ((upto n).map V.int)))) (tCons (tCB (fun xs H Q => ∃ j, xs = [.int j] ∧ ∀ p, H p = none → Q (.ref p) (upd H p (.rng 0 j))) (tCons ta tNil)) tNil)) σ (LTe S (Dl K S 0) n) := fun H s f Q k => ha H s f _ fun v H1 s1 e => ⟨n, by rw [e], fun p hp => ⟨p, n, rfl, upd_same, by omega, fun q hq => k _ _ (s1.trans ((Same.new hp).trans (Same.new hq))) ⟨q, _, rfl, Vw.at ((f.same s1).same (Same.new hp)) hq, by rw [List.length_map, upto_length]; exact Nat.le_refl _, fun y hy => by
  obtain ⟨i, hi, rfl⟩ := List.mem_map.mp hy
  have := upto_mem.mp hi
  exact dl_int (by omega)⟩⟩⟩
theorem alx_len {a : Addr} {xs : List V} (ha : Al H0 S ta σ fun H v => v = .ref a ∧ SqT K H a xs) : Al H0 S (tCB (fun xs H Q => ∃ p ys, xs = [.ref p] ∧ (SqL K H p ys ∨ SqT K H p ys) ∧ Q (.int ys.length) H) (tCons ta tNil)) σ fun _ v => v = .int xs.length := fun H s f Q k => ha H s f _ fun v H1 s1 ⟨e, h⟩ => ⟨a, xs, by rw [e], .inr h, k _ _ s1 rfl⟩
theorem alE_repN {n c : Nat} {E : Hp → V → Prop} [M : Mo E] (ha : Al H0 S ta σ (DTe K S E n)) (hb : Al H0 S tb σ fun _ v => v = .int c) (h2 : c ≤ 1000) (hn : n ≤ 1000) : Al H0 S (tOp (rRepN K) ta tb) σ (DTe K S E (c * n)) := fun H s f Q k => ha H s f _ fun v H1 s1 d1 => hb H1 (s.trans s1) (f.same s1) _ fun u H2 s2 e => by
  obtain ⟨a, xs, rfl, q1, q2, q3⟩ := d1
  refine ⟨a, c, xs, rfl, e, s2.seqT (Vw.sub.seqT q1), h2, by omega, fun p H' s' hp => k _ H' (s1.trans (s2.trans s')) ⟨p, _, rfl, (((f.same s1).same s2).same s').seqT hp, ?_, fun y hy => ?_⟩⟩
  · rw [len_rep]; exact Nat.mul_le_mul (Nat.le_refl _) q2
  · obtain ⟨l, hl, hy⟩ := List.mem_flatten.mp hy
    rw [List.eq_of_mem_replicate hl] at hy
    exact M.mo (s2.trans s') (q3 y hy)
end
end Ab
namespace L2
open PySem PySem.Spec PyProof.Rows
theorem Vw.grow {S : List Addr} {H : Hp} {p : Addr} {o : HO} (h : H p = none) : Same (Vw S H) (Vw (p :: S) (upd H p o)) := fun b u e => by
  have e' := Vw.sub b u e
  have n : b ≠ p := fun z => by rw [z, h] at e'; cases e'
  have nS : b ∉ S := fun z => by unfold Vw at e; rw [if_pos z] at e; cases e
  rw [Vw.out (by simp [n, nS]), upd_ne n]
  exact e'
theorem set_go {te : TE} {i : Nat} {u : TS} {D : Ends} {σ : St} {H : Hp} (h : te σ H fun v H1 => u D (σ.set i (some v)) H1) : tSeq (tAsg te (gName i)) u D σ H := h
theorem cons1_go {S : List Addr} {H : Hp} {te : TE} {σ : St} {R : Hp → V → Prop} {Q : List V → Hp → Prop} (f : Fx S H) (h : Al H S te σ R) (k : ∀ v H', Same H H' → R H' v → Q [v] H') : tCons te tNil σ H Q := h H (Same.refl H) f _ fun v H' s r => k v H' s r
theorem lstE_go {S : List Addr} {H : Hp} {t : TA} {σ : St} {E : Hp → V → Prop} {Q : VK} {n : Nat} (f : Fx S H) (h : AlE H S E n t σ) (k : ∀ p xs H1, Same H H1 → H1 p = none → xs.length = n → (∀ x ∈ xs, E H1 x) → Q (.ref p) (upd H1 p (.lst xs))) (hn : n ≤ 1000 := by decide) : tLst t σ H Q := h H (Same.refl H) f _ fun vs H1 s1 l d => ⟨by rw [l]; exact Nat.le_of_lt (small1000 hn), fun p hp => k p vs H1 s1 hp l d⟩
end L2
namespace Ab
open PySem L2
theorem But.vw {t : Addr} {S : List Addr} {H H' : Hp} (e : But t H H') (h : t ∈ S) : Same (Vw S H) (Vw S H') := Vw.keep fun b o n q => e b o (fun z => n (z ▸ h)) q
theorem fx1 {K : PySem.W.Frag} {H : Hp} {t a : Addr} {ns : List Int} (T : Tape K H t a ns) : Fx [t] H := fun b hb => by
  obtain ⟨⟨p, q, _, h⟩, _⟩ := T
  rw [List.mem_singleton.mp hb]
  exact ⟨_, h⟩
theorem fx2 {K : PySem.W.Frag} {H : Hp} {t a f : Addr} {ns : List Int} {xs : List V} (T : Tape K H t a ns) (h : H f = some (.lst xs)) : Fx [f, t] H := fun b hb => by
  rcases List.mem_cons.mp hb with rfl | hb
  · exact ⟨_, h⟩
  · exact fx1 T b hb
theorem _root_.L2.Fx.but {S : List Addr} {K : PySem.W.Frag} {H H' : Hp} {t a : Addr} {ns : List Int} (f : Fx S H) (b : But t H H') (T : Tape K H' t a ns) : Fx S H' := fun c hc => by
  by_cases z : c = t
  · subst z
    obtain ⟨⟨p, q, _, h⟩, _⟩ := T
    exact ⟨_, h⟩
  · obtain ⟨xs, h⟩ := f c hc
    exact ⟨xs, b c _ z h⟩
theorem Dl.grow {K : PySem.W.Frag} {S : List Addr} {H : Hp} {p : Addr} {o : HO} {m : Nat} {x : V} (d : Dl K S m H x) (h : H p = none) : Dl K (p :: S) m (upd H p o) x := let ⟨e, q, l⟩ := d; ⟨e, (Vw.grow h).den _ _ q, l⟩
theorem eqv_nil (ds : List PyData) : PyData.eqv (.tuple ds) (.tuple []) = ds.isEmpty := by
  cases ds with
  | nil => simp [PyData.eqv, PyData.eqvAll]
  | cons _ _ => simp [PyData.eqv, PyData.eqvAll]
def oD : Option Int → PyData
  | some i => .int i
  | none => .none
theorem den_oV {K : PySem.W.Frag} {H : Hp} : ∀ os : List (Option Int), DenAll K H (os.map oD) (os.map oV)
  | [] => denAll_nil.mpr rfl
  | none :: r => denAll_cons.mpr ⟨_, _, rfl, den_none.mpr rfl, den_oV r⟩
  | some i :: r => denAll_cons.mpr ⟨_, _, rfl, den_int.mpr rfl, den_oV r⟩
theorem canLay_oD : ∀ o, (oD o).canLay0 = true
  | none => by unfold oD PyData.canLay0; rfl
  | some i => canLay_int i
theorem depth_oD : ∀ o, (oD o).depth ≤ 0
  | none => by unfold oD PyData.depth; exact Nat.le_refl _
  | some i => depth_int i
theorem canLay_os (os : List (Option Int)) : (PyData.tuple (os.map oD)).canLay0 = true := by unfold PyData.canLay0; exact canLay_map _ canLay_oD os
theorem depth_os (os : List (Option Int)) : (PyData.tuple (os.map oD)).depth ≤ 1 := by unfold PyData.depth; exact Nat.succ_le_succ (depth_map _ depth_oD os)
end Ab
set_option Elab.async false
set_option linter.all false
set_option maxRecDepth 100000
namespace Ab
open PySem L2
section
variable {P : Program} {w : World} {K : PySem.W.Frag} {mg : Str → Option Value} {base : Heap}
def spBent (K : PySem.W.Frag) : Sp := fun vs H Q _ => ∃ (t a : Addr) (ns : List Int) (x : V) (c : Addr) (n : Int) (ws : List (List Int)) (os : List (Option Int)), vs = [.ref t, x, .ref c] ∧ Tape K H t a ns ∧ Den K H (bookD n ws) x ∧ isBook (bookD n ws) = true ∧ SqT K H c (os.map oV) ∧ DealO n ws os ∧
  ∀ p xs H', But t H H' → Tape K H' t a ns → H' p = some (.lst xs) → (∀ z ∈ xs, Dl K [p, t] 2 H' z) → Q (.ref p) H'
theorem scBent : FnScope ["tape", "book", "deal", "far", "found", "turn", "at", "odds", "odd"] ["tape", "book", "deal"] (defScope sBent) := ⟨rfl, rfl, rfl, by decide +kernel, rfl, by decide +kernel, by decide +kernel⟩
set_option maxHeartbeats 8000000 in
theorem ok_bent {f fD : Addr} {fd fdD : FuncData} (G : Fn K mg "_law_b_bent" sBent ["tape", "book", "deal"] f fd) (B : Bl mg) (GD : Fn K mg "_law_b_digit" sDigit ["tape", "many"] fD fdD) (OD : FnOk P w K mg base CX0 2 fD fdD ["tape", "many"] (spDigit K)) : FnOk P w K mg base CX0 3 f fd ["tape", "book", "deal"] (spBent K) := by
  refine G.fn.ok scBent (fun vs H Q E h => ?_) (fun cdv A outer s H vs Q E hr h => ?_)
  · obtain ⟨t, a, ns, x, c, n, ws, os, rfl, _⟩ := h
    rfl
  · obtain ⟨t, a, ns, x, c, n, ws, os, rfl, hT, hx, hb, hc, ⟨hol, hos⟩, k⟩ := h
    refine ⟨_, pss_cons (ps_set (i := 3) scBent.nd rfl (Or.inl rfl) (pe_fn GD OD hr rfl (pa_cons (pv 0) (pa_cons (pe_op op_pow pe_int pe_int) pa_nil))))
      (pss_cons (ps_set (i := 4) scBent.nd rfl (Or.inl rfl) (pe_lst (pa_cons (pv 2) (pa_cons (pe_callTy (call_list_ofK (K := K) rfl) rfl B.list b_list (pa_cons (pv 2) pa_nil)) (pa_cons (pe_op (op_cat2K (K := K) rfl) (pv 2) (pe_tup (pa_cons pe_non pa_nil)))
        (pa_cons (pe_slice (sl_tup2K (K := K) rfl) (pv 2) (po_some pe_int) po_none) (pa_cons (pe_op (op_repN (K := K) rfl) (pe_tup (pa_cons pe_non pa_nil)) (pe_callB (call_len_seqK (K := K) rfl) rfl B.len b_len (pa_cons (pv 2) pa_nil)))
        (pa_cons pe_non (pa_cons pe_str (pa_cons pe_int (pa_cons pe_dict0 (pa_cons (pe_tup pa_nil) (pa_cons (pe_lst pa_nil) (pa_cons (pe_tup (pa_cons (pv 2) pa_nil)) (pa_cons pe_str pa_nil)))))))))))))))
      (pss_cons (ps_for PassesOwn.never rfl (pi_range1 rfl B.range (pa_cons (pe_op op_mul pe_int (pe_callTy call_int1 rfl B.int b_int (pa_cons (pe_cmpR (op_neD hr.u64) (pv 2) (pe_tup pa_nil) (nomark _)) pa_nil))) pa_nil)) (pg_name (i := 5) scBent.nd rfl (Or.inl rfl))
        (pss_cons (ps_set (i := 6) scBent.nd rfl (Or.inl rfl) (pe_fn GD OD hr rfl (pa_cons (pv 0) (pa_cons (pe_callB call_len_seq rfl B.len b_len (pa_cons (pv 2) pa_nil)) pa_nil))))
        (pss_cons (ps_set (i := 7) scBent.nd rfl (Or.inl rfl) (pe_op op_cat (pe_callTy (call_list_rng rfl) rfl B.list b_list (pa_cons (pe_callTy call_range1 rfl B.range b_range (pa_cons (pe_ix (ix_tupK (K := K) rfl) (pv 1) pe_int (fun _ _ => rfl)) pa_nil)) pa_nil))
          (pe_lst (pa_cons pe_non (pa_cons (pe_ix (ix_tupK (K := K) rfl) (pv 1) pe_int (fun _ _ => rfl)) (pa_cons (pe_op op_add (pe_ix (ix_tupK (K := K) rfl) (pv 1) pe_int (fun _ _ => rfl)) (pv 3)) (pa_cons (pe_un un_neg pe_int) (pa_cons (pe_op op_sub (pe_un un_neg pe_int) (pv 3)) (pa_cons pe_bl (pa_cons pe_bl pa_nil))))))))))
        (pss_one (ps_for PassesOwn.never rfl (pi_list (pe_op op_cat (pv 7) (pe_lst (pa_cons pe_str (pa_cons (pe_tup (pa_cons pe_non pa_nil)) (pa_cons (pe_lst (pa_cons pe_int pa_nil)) (pa_cons pe_dict0 (pa_cons (pe_tup pa_nil) pa_nil)))))))) (pg_name (i := 8) scBent.nd rfl (Or.inl rfl))
          (pss_one (ps_expr (pe_bm PySem.F.plainAttrs_list PySem.F.slot_list_append PySem.F.type_list_append mt_append (pv 4) (pa_cons
            (pe_op (op_cat2K (K := K) rfl) (pe_op (op_cat2K (K := K) rfl) (pe_slice (sl_tup2K (K := K) rfl) (pv 2) po_none (po_some (pv 6))) (pe_tup (pa_cons (pv 8) pa_nil))) (pe_slice (sl_tup2K (K := K) rfl) (pv 2) (po_some (pe_op op_add (pv 6) pe_int)) po_none)) pa_nil)))))))))
      (pss_one (ps_ret (pv 4))))), ?_⟩
    obtain ⟨hn1, hn6, hw12, hws⟩ := book_parts hb
    obtain ⟨nn, rfl⟩ : ∃ nn : Nat, n = nn := ⟨n.toNat, by omega⟩
    obtain ⟨ba, bb, ys, rfl, ha, hb2, hys⟩ := den_book hx
    have hl12 : os.length ≤ 12 := by omega
    have facts : ∀ H2, But t H H2 → SqT K H2 c (os.map oV) ∧ SqT K H2 ba [.int nn, .ref bb] := fun H2 b => ⟨hT.seqT b hc, hT.seqT b ha⟩
    have el : ∀ S H, ∀ y ∈ os.map oV, Dl K S 0 H y := fun S H y hy => by
      obtain ⟨o, ho, rfl⟩ := List.mem_map.mp hy
      cases o with
      | none => exact dl_non
      | some i => exact dl_int (by have := hos i ho; omega)
    have deal : ∀ S H2, Fx S H2 → But t H H2 → DTe K S (Dl K S 0) 12 H2 (.ref c) := fun S H2 f b => ⟨c, _, rfl, f.seqT (facts H2 b).1, by rw [List.length_map]; omega, el S H2⟩
    refine ⟨_, rfl, _, _, rfl, rfl, ⟨by decide, by decide, by decide⟩, t, a, ns, 100000000000000000000, rfl, hT, by decide, by decide, fun far H1 hf0 hf1 b1 T1 => ?_⟩
    have f1 : Fx [t] H1 := fx1 T1
    have d1 := deal _ _ f1 b1
    have c1 := (facts _ b1).1
    dsimp only [gName]
    refine set_go (lstE_go (E := Dl K [t] 2) f1 (alE_cons (Al.up (Al.tup (al_var rfl d1))) (alE_cons (Al.up (Al.lst (alE_listof (al_var rfl d1)))) (alE_cons (Al.up (Al.tup (alE_cat (al_var rfl d1) (alE_tup (alE_cons all_non alE_nil))))) (alE_cons (Al.up (Al.tup (alE_slice (al_var rfl d1) (alO_some al_int) alO_none)))
      (alE_cons (Al.up (Al.tup (alE_repN (E := Dl K [t] 0) (n := 1) (alE_tup (alE_cons all_non alE_nil)) (alx_len (K := K) (al_var rfl ⟨rfl, c1⟩)) (by rw [List.length_map]; omega) (by decide)) (by rw [List.length_map]; omega)))
      (alE_cons all_non (alE_cons all_str (alE_cons all_int (alE_cons all_dict (alE_cons (Al.tup (alE_tup (E := Dl K [t] 1) alE_nil)) (alE_cons (Al.lst (alE_lst (E := Dl K [t] 1) alE_nil)) (alE_cons (Al.tup (alE_tup (alE_cons (Al.tup (al_var rfl d1)) alE_nil))) (alE_cons all_str alE_nil))))))))))))) (fun fl xs0 H5 s5 hfl hlz hdz => ?_))
    have b5 := b1.trans (But.of s5)
    have T5 := T1.same s5
    have ntf : fl ≠ t := T5.ne hfl
    have hflH : H fl = none := b5.free hfl ntf
    have F : Far K a fl ns := far_of T5.2 hfl
    have b6 : But t H (upd H5 fl (.lst xs0)) := b5.trans (But.of (Same.new hfl))
    have T6 := T5.same (Same.new (o := .lst xs0) hfl)
    have hl6 : upd H5 fl (.lst xs0) fl = some (.lst xs0) := upd_same
    have hd6 : ∀ z ∈ xs0, Dl K [fl, t] 2 (upd H5 fl (.lst xs0)) z := fun z hz => Dl.grow (hdz z hz) hfl
    generalize upd H5 fl (.lst xs0) = H6 at b6 T6 hl6 hd6 ⊢
    -- the loop
    refine ⟨_, rfl, size1 (Nat.zero_le _), fun z hz => ?_⟩
    have s7 := Same.new (o := .tup []) hz
    have hcl := canLay_os os
    refine ⟨.tuple (os.map oD), .tuple [], den_tuple.mpr ⟨c, _, rfl, s7.seqT (facts _ b6).1, den_oV os⟩, den_tuple.mpr ⟨z, [], rfl, SqT.of upd_same, denAll_nil.mpr rfl⟩, noDict_of _ hcl, rfl, shaped_of hcl (Nat.le_trans (depth_os os) (by decide)), rfl, .inr ⟨_, rfl, _, _, rfl, rfl, .inl ⟨by decide, by decide⟩, ?_⟩⟩
    have b7 : But t H (upd H6 z (.tup [])) := b6.trans (But.of s7)
    have T7 := T6.same s7
    have hl7 : upd H6 z (.tup []) fl = some (.lst xs0) := s7 _ _ hl6
    have hd7 : ∀ y ∈ xs0, Dl K [fl, t] 2 (upd H6 z (.tup [])) y := fun y hy => Mo.mo s7 (hd6 y hy)
    generalize upd H6 z (.tup []) = H7 at b7 T7 hl7 hd7 ⊢
    obtain ⟨turns, ht2, hte, hnz⟩ : ∃ m : Nat, m ≤ 2 ∧ (2 * (if (!PyData.eqv (.tuple (os.map oD)) (.tuple [])) = true then (1 : Int) else 0)) = m ∧ (0 < m → os ≠ []) := by
      rw [eqv_nil]
      cases os with
      | nil => exact ⟨0, by decide, by decide, fun h => by omega⟩
      | cons h r => exact ⟨2, by decide, rfl, fun _ => by simp⟩
    refine ⟨turns, congrArg (fun z => [V.int z]) hte, by omega, by omega, for_range (lo := 0) (n := turns) (fun i σ H8 => ∃ v5 v6 v7 v8 xs, σ = [some (.ref t), some (.ref ba), some (.ref c), some (.int far), some (.ref fl), v5, v6, v7, v8] ∧ But t H H8 ∧ Tape K H8 t a ns ∧ H8 fl = some (.lst xs) ∧ xs.length ≤ 13 + 18 * i ∧ ∀ y ∈ xs, Dl K [fl, t] 2 H8 y)
      ⟨none, none, none, none, xs0, rfl, b7, T7, hl7, by omega, hd7⟩ ?_ ?_⟩
    · rintro i σ H8 hi ⟨v5, v6, v7, v8, xs8, rfl, b8, T8, hl8, hx8, hd8⟩
      have hne : os ≠ [] := hnz (by omega)
      have hpos : 0 < os.length := List.length_pos_iff.mpr hne
      refine ⟨_, rfl, _, rfl, c, _, rfl, .inr (facts _ b8).1, t, a, ns, _, rfl, T8, by rw [List.length_map]; omega, by rw [List.length_map]; omega, fun at0 H9 ha0 ha1 b9' T9 => ?_⟩
      rw [List.length_map] at ha1
      have b9 := b8.trans b9'
      have hl9 : H9 fl = some (.lst xs8) := b9' fl _ ntf hl8
      have hd9 : ∀ y ∈ xs8, Dl K [fl, t] 2 H9 y := fun y hy => (hd8 y hy).keep (b9'.vw (by simp))
      obtain ⟨m, rfl⟩ : ∃ m : Nat, at0 = m := ⟨at0.toNat, by omega⟩
      have f9 := fx2 T9 hl9
      have hba := (facts _ b9).2
      dsimp only [gName]
      refine set_al f9 (alE_catL (E := Dl K [fl, t] 1) (n := nn) (m := 7) (Al.upL (n := nn) (m := 0) (al_lrng (K := K) (n := nn) (al_ixT (R := fun _ v => v = .int nn) (al_var rfl ⟨rfl, hba⟩) alx_c rfl rfl) (by omega)) (by decide) (Nat.le_refl _)) (alE_lst (E := Dl K [fl, t] 1) (alE_cons all_non (alE_cons (Al.int (al_ixT (R := fun _ v => v = .int nn) (al_var rfl ⟨rfl, hba⟩) alx_c rfl rfl) (by omega)) (alE_cons (Al.int (alx_op (al_ixT (R := fun _ v => v = .int nn) (al_var rfl ⟨rfl, hba⟩) alx_c rfl rfl) (alx_var rfl)) (by omega))
        (alE_cons (Al.int (alx_un alx_c) (by decide)) (alE_cons (Al.int (alx_op (alx_un alx_c) (alx_var rfl)) (by omega)) (alE_cons all_bl (alE_cons all_bl alE_nil)))))))) (by omega)) (fun od H10 s10 dod => ?_)
      have f10 := f9.same s10
      refine al_go f10 (alE_catL (E := Dl K [fl, t] 1) (n := nn + 7) (m := 5) (al_var rfl dod) (alE_lst (E := Dl K [fl, t] 1) (alE_cons all_str (alE_cons (Al.tup (alE_tup (alE_cons all_non alE_nil))) (alE_cons (Al.lst (alE_lst (alE_cons all_int alE_nil))) (alE_cons all_dict (alE_cons (Al.tup (alE_tup (E := Dl K [fl, t] 0) alE_nil)) alE_nil)))))) (by omega)) (fun v H11 s11 dv => ?_)
      have s911 := s10.trans s11
      obtain ⟨ol, zs, rfl, hol', hlos, hdo⟩ := dv
      have hol11 : H11 ol = some (.lst zs) := Vw.sub _ _ hol'
      have nolf : ol ≠ fl := fun z => by
        unfold Vw at hol'
        rw [if_pos (by simp [z])] at hol'
        cases hol'
      have b11 := b9.trans (But.of s911)
      have T11 := T9.same s911
      have hl11 : H11 fl = some (.lst xs8) := s911 _ _ hl9
      have hd11 : ∀ y ∈ xs8, Dl K [fl, t] 2 H11 y := fun y hy => Mo.mo s911 (hd9 y hy)
      refine ⟨ol, rfl, ⟨_, SqL.of hol11⟩, for_list (K := K) (a := ol) (xs := zs) (fun j σ H12 => ∃ v8 xs, σ = [some (.ref t), some (.ref ba), some (.ref c), some (.int far), some (.ref fl), some (.int (0 + (i : Int))), some (.int m), some od, v8] ∧ But t H H12 ∧ Tape K H12 t a ns ∧ H12 ol = some (.lst zs) ∧ (∀ y ∈ zs, Dl K [fl, t] 1 H12 y) ∧ H12 fl = some (.lst xs) ∧ xs.length ≤ xs8.length + j ∧ ∀ y ∈ xs, Dl K [fl, t] 2 H12 y)
        ⟨_, xs8, rfl, b11, T11, hol11, hdo, hl11, by omega, hd11⟩ (fun j σ H12 _ ⟨_, _, _, _, _, h, _⟩ => SqL.of h) ?_ ?_⟩
      · rintro j y σ H12 hy ⟨v8', xs, rfl, b12, T12, ho12, hdo12, hl12', hx12, hd12⟩
        have hj : j < zs.length := (List.getElem?_eq_some_iff.mp hy).1
        have f12 := fx2 T12 hl12'
        have ww := (facts _ b12).1
        have it : ∀ z ∈ os.map oV, Dl K [fl, t] 1 H12 z := fun z hz => (el _ _ z hz).up
        have hlm : (os.map oV).length = os.length := List.length_map ..
        refine ⟨_, rfl, .inl ⟨rfl, _, SqL.of hl12'⟩, ?_⟩
        refine cons1_go f12 (Al.tup (alE_cat (alE_cat (al_to (E := Dl K [fl, t] 1) (al_var rfl ⟨rfl, ww⟩) (alx_var rfl) it) (alE_tup (alE_cons (al_var rfl (hdo12 y (List.mem_of_getElem? hy))) alE_nil)) (by omega)) (al_from (E := Dl K [fl, t] 1) (m := m + 1) (al_var rfl ⟨rfl, ww⟩) (Al.weak (alx_op (alx_var rfl) alx_c) fun _ _ r => r.trans rfl) it) (by omega)) (by omega)) (fun v H13 s13 d13 => ?_)
        have hl13 := s13 _ _ hl12'
        refine ⟨fl, xs, v, rfl, rfl, hl13, by rw [sizeLine_eq]; omega, ?_⟩
        have bf : But fl H13 (upd H13 fl (.lst (xs ++ [v]))) := But.at
        have vf : Same (Vw [fl, t] H12) (Vw [fl, t] (upd H13 fl (.lst (xs ++ [v])))) := (Vw.same s13).trans (bf.vw (by simp))
        refine ⟨_, xs ++ [v], rfl, fun b o nb hb => ?_, (T12.same s13).wr bf (Ne.symm ntf) F, ?_, fun z hz => (hdo12 z hz).keep vf, upd_same, by rw [List.length_append]; show xs.length + 1 ≤ _; omega, fun z hz => ?_⟩
        · rw [upd_ne (fun z => by rw [z, hflH] at hb; cases hb)]
          exact s13 _ _ (b12 b o nb hb)
        · rw [upd_ne nolf]
          exact s13 _ _ ho12
        · rcases List.mem_append.mp hz with hz | hz
          · exact (hd12 z hz).keep vf
          · rw [List.mem_singleton.mp hz]
            exact Dl.keep d13 (bf.vw (by simp))
      · rintro σ H12 ⟨v8', xs, rfl, b12, T12, ho12, hdo12, hl12', hx12, hd12⟩
        exact ⟨_, _, _, _, xs, rfl, b12, T12, hl12', by omega, hd12⟩
    · rintro σ H8 ⟨v5, v6, v7, v8, xs8, rfl, b8, T8, hl8, hx8, hd8⟩
      exact ⟨_, rfl, k fl xs8 H8 b8 T8 hl8 hd8⟩
end
end Ab
set_option Elab.async false
set_option linter.all false
set_option maxRecDepth 100000
namespace L2
open PySem
section
variable {K : PySem.W.Frag} {S : List Addr} {H H' H0 : Hp} {σ : St} {te ta : TE}
theorem asg_al {R : Hp → V → Prop} {i : Nat} {D : Ends} (f : Fx S H) (h : Al H S te σ R) (k : ∀ v H', Same H H' → R H' v → D.nx (σ.set i (some v)) H') : tAsg te (gName i) D σ H := h H (Same.refl H) f _ k
abbrev TIs (K : PySem.W.Frag) (S : List Addr) (n : Nat) : Hp → V → Prop := DTe K S II n
theorem TIs.up {n m : Nat} {x : V} (h : TIs K S n H x) (l : n ≤ m) : TIs K S m H x := let ⟨a, xs, h1, h2, h3, h4⟩ := h; ⟨a, xs, h1, h2, Nat.le_trans h3 l, h4⟩
theorem TIs.keep {n : Nat} {x : V} (h : TIs K S n H x) (e : Same (Vw S H) (Vw S H')) : TIs K S n H' x := let ⟨a, xs, h1, h2, h3, h4⟩ := h; ⟨a, xs, h1, e.seqT h2, h3, h4⟩
theorem LI.up {n m k k' : Nat} {x : V} (h : LTe S (TIs K S n) k H x) (l : n ≤ m) (l' : k ≤ k') : LTe S (TIs K S m) k' H x := let ⟨a, xs, h1, h2, h3, h4⟩ := h; ⟨a, xs, h1, h2, Nat.le_trans h3 l', fun y hy => (h4 y hy).up l⟩
theorem LI.keep {n k : Nat} {x : V} (h : LTe S (TIs K S n) k H x) (e : Same (Vw S H) (Vw S H')) : LTe S (TIs K S n) k H' x := let ⟨a, xs, h1, h2, h3, h4⟩ := h; ⟨a, xs, h1, e _ _ h2, h3, fun y hy => (h4 y hy).keep e⟩
theorem Al.ti {n : Nat} (h : Al H0 S te σ (TIs K S n)) (l : n ≤ 12 := by decide) : Al H0 S te σ (TIs K S 12) := h.weak fun _ _ r => r.up l
theorem Al.ii {i : Int} (h : Al H0 S te σ fun _ v => v = .int i) : Al H0 S te σ II := h.weak fun _ _ r => ⟨i, r⟩
theorem al_trngI {n : Nat} (ha : Al H0 S ta σ fun _ v => v = .int n) (hn : n ≤ 1000) : Al H0 S (tCB (fun xs H Q => ∃ (a : Addr) (n : Nat), xs = [.ref a] ∧ H a = some (.rng 0 n) ∧ n ≤ 1000 ∧ ∀ p H', Same H H' → SqT K H' p ((upto n).map V.int) → Q (.ref p) H') (tCons (tCB (fun xs H Q => ∃ j, xs = [.int j] ∧ ∀ p, H p = none → Q (.ref p) (upd H p (.rng 0 j))) (tCons ta tNil)) tNil)) σ (TIs K S n) := fun H s f Q k => ha H s f _ fun v H1 s1 e => ⟨n, by rw [e], fun p hp => ⟨p, n, rfl, upd_same, hn, fun q H' s' hq => k _ H' (s1.trans ((Same.new hp).trans s')) ⟨q, _, rfl, (((f.same s1).same (Same.new hp)).same s').seqT hq, by rw [List.length_map, Ab.upto_length]; exact Nat.le_refl _, fun y hy => by
  obtain ⟨i, hi, rfl⟩ := List.mem_map.mp hy
  exact ⟨i, rfl⟩⟩⟩⟩
theorem cut_le (xs : List V) (lo : Option Int) (c : Nat) : (cutV xs lo (some (c : Int))).length ≤ c := by
  unfold cutV
  rw [List.length_take, HT.sIx_nat]
  omega
theorem alE_sliceAB {n c : Nat} {E : Hp → V → Prop} [M : Mo E] {tl : TO} (h : Al H0 S te σ (DTe K S E n)) (hl : AlO H0 S tl σ) : Al H0 S (tSl (rSl2 K) te tl (tPart (tC (.int c)))) σ (DTe K S E c) := fun H s f Q k => h H s f _ fun v H1 s1 d1 => hl H1 (s.trans s1) (f.same s1) _ fun lo H2 s2 => ⟨(c : Int), rfl, by
  obtain ⟨a, xs, rfl, ha, la, da⟩ := d1
  have f2 := (f.same s1).same s2
  exact ⟨a, xs, rfl, s2.seqT (Vw.sub.seqT ha), fun p H' s' hp => k _ H' (s1.trans (s2.trans s')) ⟨p, _, rfl, (f2.same s').seqT hp, cut_le _ _ _, fun y hy => M.mo (s2.trans s') (da y (cutV_mem hy))⟩⟩⟩
theorem TIs.ints {n : Nat} {x : V} (h : TIs K S n H x) : ∃ (q : Addr) (ls : List Int), x = .ref q ∧ SqT K H q (ls.map V.int) ∧ ls.length ≤ n := by
  obtain ⟨a, xs, h1, h2, h3, h4⟩ := h
  have : ∀ xs : List V, (∀ y ∈ xs, II H y) → ∃ ls : List Int, xs = ls.map V.int := fun xs => by
    induction xs with
    | nil => exact fun _ => ⟨[], rfl⟩
    | cons y r ih =>
      intro h
      obtain ⟨i, rfl⟩ := h y (List.mem_cons_self ..)
      obtain ⟨ls, rfl⟩ := ih fun z hz => h z (List.mem_cons_of_mem _ hz)
      exact ⟨i :: ls, rfl⟩
  obtain ⟨ls, rfl⟩ := this xs h4
  exact ⟨a, ls, h1, Vw.sub.seqT h2, by rwa [List.length_map] at h3⟩
end
end L2
namespace Ab
open PySem L2
section
variable {P : Program} {w : World} {K : PySem.W.Frag} {mg : Str → Option Value} {base : Heap}
def spSets (K : PySem.W.Frag) : Sp := fun vs H Q _ => ∃ (t a : Addr) (ns : List Int) (x : V) (n : Int) (ws : List (List Int)), vs = [.ref t, x] ∧ Tape K H t a ns ∧ Den K H (bookD n ws) x ∧ isBook (bookD n ws) = true ∧
  ∀ p xs H', But t H H' → Tape K H' t a ns → H' p = some (.lst xs) → (∀ z ∈ xs, ∃ (q : Addr) (ls : List Int), z = .ref q ∧ SqT K H' q (ls.map V.int) ∧ ls.length ≤ 12) → Q (.ref p) H'
theorem scSets : FnScope ["tape", "book", "found", "hand", "far", "drawn"] ["tape", "book"] (defScope sSets) := ⟨rfl, rfl, rfl, by decide +kernel, rfl, by decide +kernel, by decide +kernel⟩
set_option maxHeartbeats 8000000 in
theorem ok_sets {f fD : Addr} {fd fdD : FuncData} (G : Fn K mg "_law_b_sets" sSets ["tape", "book"] f fd) (B : Bl mg) (GD : Fn K mg "_law_b_digit" sDigit ["tape", "many"] fD fdD) (OD : FnOk P w K mg base CX0 2 fD fdD ["tape", "many"] (spDigit K)) : FnOk P w K mg base CX0 3 f fd ["tape", "book"] (spSets K) := by
  refine G.fn.ok scSets (fun vs H Q E h => ?_) (fun cdv A outer s H vs Q E hr h => ?_)
  · obtain ⟨t, a, ns, x, n, ws, rfl, _⟩ := h
    rfl
  · obtain ⟨t, a, ns, x, n, ws, rfl, hT, hx, hb, k⟩ := h
    have r2 : Room 2 _ := hr
    refine ⟨_, (pss_cons (ps_set (i := 2) scSets.nd rfl (Or.inl rfl) (pe_lst (pa_cons (pe_tup pa_nil) pa_nil)))
    (pss_cons (ps_for PassesOwn.never rfl (pi_range1 rfl B.range (pa_cons (pe_callB (call_min2 rfl) rfl B.min b_min (pa_cons pe_int (pa_cons (pe_ix (ix_tupK (K := K) rfl) (pv 1) pe_int (fun _ _ => rfl)) pa_nil))) pa_nil)) (pg_name (i := 3) scSets.nd rfl (Or.inr rfl))
      (pss_one (ps_set (i := 2) scSets.nd rfl (Or.inl rfl) (pe_op op_cat (pv 2) (pe_comp (own := ["some"]) (fr := [3]) (frn := ["hand"]) (compOk_of (defScope sSets) ["tape", "book", "found", "hand", "far", "drawn"] rfl rfl (by decide +kernel)) rfl (pi_list (pv 2))
        (fun _ _ _ _ => (pg_name (i := 0) (show (["some", "hand"] : List Str).Nodup by decide +kernel) rfl (Or.inl rfl))) (fun _ _ _ _ => pf_nil)
        (fun _ _ _ _ => (pe_op (op_cat2K (K := K) rfl) (pv 0) (pe_tup (pa_cons (pv 1) pa_nil)))))))))
    (pss_cons (ps_set (i := 4) scSets.nd rfl (Or.inl rfl) (pe_fn GD OD r2 rfl (pa_cons (pv 0) (pa_cons (pe_op op_pow pe_int pe_int) pa_nil))))
    (pss_cons (ps_set (i := 5) scSets.nd rfl (Or.inl rfl) (pe_callTy call_tuple_of rfl B.tuple b_tuple (pa_cons (pe_comp (own := ["hand"]) (fr := [0]) (frn := ["tape"]) (compOk_of (defScope sSets) ["tape", "book", "found", "hand", "far", "drawn"] rfl rfl (by decide +kernel)) rfl (pi_range1 rfl B.range (pa_cons (pe_ix (ix_tupK (K := K) rfl) (pv 1) pe_int (fun _ _ => rfl)) pa_nil))
        (fun _ _ _ _ => (pg_name (i := 0) (show (["hand", "tape"] : List Str).Nodup by decide +kernel) rfl (Or.inl rfl))) (fun _ _ _ _ => pf_one (pt_cmpR op_gt (pe_fn GD OD r2 rfl (pa_cons (pv 1) (pa_cons pe_int pa_nil))) pe_int (nomark _)))
        (fun _ _ _ _ => (pv 0))) pa_nil)))
    (pss_cons (ps_set (i := 2) scSets.nd rfl (Or.inl rfl) (pe_op op_cat (pv 2) (pe_lst (pa_cons (pv 5) (pa_cons (pe_callTy (call_tuple_rng rfl) rfl B.tuple b_tuple (pa_cons (pe_callTy call_range1 rfl B.range b_range (pa_cons (pe_ix (ix_tupK (K := K) rfl) (pv 1) pe_int (fun _ _ => rfl)) pa_nil)) pa_nil)) (pa_cons (pe_rev (pv 5) (pe_un un_neg pe_int)) (pa_cons (pe_op (op_cat2K (K := K) rfl) (pv 5) (pe_slice (sl_tup2K (K := K) rfl) (pv 5) (po_some (pe_un un_neg pe_int)) po_none)) (pa_cons (pe_op (op_cat2K (K := K) rfl) (pv 5) (pe_tup (pa_cons (pe_ix (ix_tupK (K := K) rfl) (pv 1) pe_int (fun _ _ => rfl)) pa_nil))) (pa_cons (pe_op (op_cat2K (K := K) rfl) (pe_tup (pa_cons (pe_un un_neg pe_int) pa_nil)) (pv 5)) pa_nil)))))))))
    (pss_cons (ps_set (i := 2) scSets.nd rfl (Or.inl rfl) (pe_op op_cat (pv 2) (pe_lst (pa_cons (pe_op (op_cat2K (K := K) rfl) (pe_slice (sl_tup2K (K := K) rfl) (pv 5) po_none (po_some pe_int)) (pv 5)) (pa_cons (pe_op (op_cat2K (K := K) rfl) (pe_op (op_cat2K (K := K) rfl) (pe_slice (sl_tup2K (K := K) rfl) (pv 5) (po_some pe_int) (po_some pe_int)) (pe_slice (sl_tup2K (K := K) rfl) (pv 5) po_none (po_some pe_int))) (pe_slice (sl_tup2K (K := K) rfl) (pv 5) (po_some pe_int) po_none)) (pa_cons (pe_tup (pa_cons pe_int (pa_cons pe_int (pa_cons pe_int pa_nil)))) (pa_cons (pe_tup (pa_cons pe_int (pa_cons pe_int (pa_cons pe_int pa_nil)))) (pa_cons (pe_tup (pa_cons pe_int (pa_cons pe_int (pa_cons pe_int (pa_cons pe_int pa_nil))))) pa_nil))))))))
    (pss_one (ps_ret (pe_op op_cat (pv 2) (pe_lst (pa_cons (pe_op (op_cat2K (K := K) rfl) (pv 5) (pe_tup (pa_cons (pe_op op_add (pe_ix (ix_tupK (K := K) rfl) (pv 1) pe_int (fun _ _ => rfl)) (pv 4)) pa_nil))) (pa_cons (pe_tup (pa_cons (pe_op op_sub (pe_un un_neg pe_int) (pv 4)) pa_nil)) (pa_cons (pe_tup (pa_cons pe_int (pa_cons pe_int pa_nil))) pa_nil))))))))))))), ?_⟩
    obtain ⟨hn1, hn6, hw12, hws⟩ := book_parts hb
    obtain ⟨nn, rfl⟩ : ∃ nn : Nat, n = nn := ⟨n.toNat, by omega⟩
    obtain ⟨ba, bb, ys, rfl, ha, hb2, hys⟩ := den_book hx
    have facts : ∀ H2, But t H H2 → SqT K H2 ba [.int nn, .ref bb] := fun H2 b => hT.seqT b ha
    dsimp only [gName]
    refine set_al (S := [t]) (fx1 hT) (alE_lst (E := TIs K [t] 0) (alE_cons (alE_tup alE_nil) alE_nil)) (fun f0 H1 s1 d1 => ?_)
    have em : ∀ z : Int, (if (z : Int) < 4 then z else 4) = ((min 4 z.toNat : Nat) : Int) ∨ z < 0 := fun z => by
      by_cases h : z < 4
      · rw [if_pos h]; omega
      · rw [if_neg h]; omega
    have em' := (em nn).resolve_right (by omega)
    refine ⟨_, rfl, ba, _, 0, .int nn, rfl, rfl, s1.seqT ha, rfl, _, _, rfl, (min 4 (nn : Int).toNat : Nat), congrArg (fun z => [V.int z]) em', by omega, by omega, for_range (lo := 0) (n := min 4 (nn : Int).toNat) (fun i σ H2 => ∃ fv v3 v4 v5, σ = [some (.ref t), some (.ref ba), some fv, v3, v4, v5] ∧ Same H H2 ∧ LTe [t] (TIs K [t] i) (2 ^ i) H2 fv)
      ⟨f0, none, none, none, rfl, s1, d1⟩ ?_ ?_⟩
    · rintro i σ H2 hi ⟨fv, v3, v4, v5, rfl, s2, d2⟩
      have hi4 : i < 4 := by omega
      have hp : 2 ^ i ≤ 8 := by
        have : i = 0 ∨ i = 1 ∨ i = 2 ∨ i = 3 := by omega
        rcases this with rfl | rfl | rfl | rfl <;> decide
      have f2 : Fx [t] H2 := fx1 (hT.same s2)
      refine asg_al f2 (alE_catL (E := TIs K [t] (i + 1)) (n := 2 ^ i) (m := 2 ^ i) (al_var rfl (LI.up d2 (Nat.le_succ i) (Nat.le_refl _))) (alE_comp (K := K) (E := TIs K [t] i) (E' := TIs K [t] (i + 1)) (al_var rfl d2) (by omega) (fun Hx x sx hE => alE_cat (al_var rfl hE) (alE_tup (alE_cons (al_var rfl ⟨_, rfl⟩) alE_nil)) (by omega)) (fun v x => rfl)) (by omega)) (fun v H3 s3 d3 => ?_)
      exact ⟨v, _, _, _, rfl, s2.trans s3, by rw [Nat.pow_succ, Nat.mul_two]; exact d3⟩
    · rintro σ H2 ⟨fv, v3, v4, v5, rfl, s2, d2⟩
      have d2' : LTe [t] (TIs K [t] 12) 16 H2 fv := LI.up d2 (by omega) (by
        have : min 4 (nn : Int).toNat = 0 ∨ min 4 (nn : Int).toNat = 1 ∨ min 4 (nn : Int).toNat = 2 ∨ min 4 (nn : Int).toNat = 3 ∨ min 4 (nn : Int).toNat = 4 := by omega
        rcases this with h | h | h | h | h <;> rw [h] <;> decide)
      clear d2 em em' d1
      have T2 := hT.same s2
      have b2 : But t H H2 := But.of s2
      refine ⟨_, rfl, _, _, rfl, rfl, ⟨by decide, by decide, by decide⟩, t, a, ns, 100000000000000000000, rfl, T2, by decide, by decide, fun far H3 hf0 hf1 b3' T3 => ?_⟩
      have b3 := b2.trans b3'
      have d3 := LI.keep d2' (b3'.vw (S := [t]) (by simp))
      refine ⟨_, rfl, ba, _, 0, .int nn, rfl, rfl, facts _ b3, rfl, (nn : Int), rfl, by omega, by omega, comp_range (lo := 0) (n := ((nn : Int)).toNat) (fun σ => ∃ v, σ = [v, some (.ref t)]) (fun i ys H4 => ∃ l : List Int, ys = l.map V.int ∧ l.length ≤ i ∧ But t H3 H4 ∧ Tape K H4 t a ns) (size1 (by omega)) ⟨none, rfl⟩
        ⟨[], rfl, Nat.zero_le _, But.refl t H3, T3⟩ ?_ ?_ ?_⟩
      · rintro i ys H4 ⟨l, rfl, h1, _⟩
        rw [List.length_map]; exact h1
      · rintro i ys σ H4 hi ⟨v, rfl⟩ ⟨l, rfl, h1, b4, T4⟩ hz
        refine ⟨_, rfl, t, a, ns, 3, rfl, T4, by decide, by decide, fun r5 H5 _ _ b5 T5 => ⟨_, _, rfl, rfl, _, rfl, ?_⟩⟩
        refine ite2 (fun c => ?_) (fun c => ?_)
        · exact ⟨_, rfl, hz, ⟨_, rfl⟩, l ++ [0 + (i : Int)], by rw [List.map_append]; rfl, by rw [List.length_append]; exact Nat.succ_le_succ h1, b4.trans b5, T5⟩
        · exact ⟨⟨_, rfl⟩, l, rfl, by omega, b4.trans b5, T5⟩
      · rintro ys H4 ⟨l, rfl, h1, b4, T4⟩ p hp
        have sp := Same.new (o := .lst (l.map V.int)) hp
        refine ⟨p, _, rfl, .inl ⟨SqL.of upd_same, fun dr hdr => ?_⟩⟩
        have s5 := sp.trans (Same.new (o := .tup (l.map V.int)) hdr)
        have hdr5 : SqT K (upd (upd H4 p (.lst (l.map V.int))) dr (.tup (l.map V.int))) dr (l.map V.int) := SqT.of upd_same
        generalize upd (upd H4 p (.lst (l.map V.int))) dr (.tup (l.map V.int)) = H5 at s5 hdr5 ⊢
        have b35 := b4.trans (But.of (t := t) s5)
        have b5 := b3.trans b35
        have T5 := T4.same s5
        have f5 : Fx [t] H5 := fx1 T5
        have d5 := LI.keep d3 (b35.vw (S := [t]) (by simp))
        have hba := facts _ b5
        have dd : TIs K [t] 6 H5 (.ref dr) := ⟨dr, _, rfl, f5.seqT hdr5, by rw [List.length_map]; omega, fun y hy => by
          obtain ⟨i, _, rfl⟩ := List.mem_map.mp hy
          exact ⟨i, rfl⟩⟩
        refine set_al f5 (alE_catL (E := TIs K [t] 12) (al_var rfl d5) (alE_lst (E := TIs K [t] 12) (alE_cons (Al.ti (al_var rfl dd)) (alE_cons (Al.ti (al_trngI (K := K) (n := nn) (al_ixT (R := fun _ v => v = .int nn) (al_var rfl ⟨rfl, hba⟩) alx_c rfl rfl) (by omega)) (by omega)) (alE_cons (Al.ti (alE_rev (al_var rfl dd) al_neg1)) (alE_cons (Al.ti (alE_cat (al_var rfl dd) (alE_slice (al_var rfl dd) (alO_some (al_un al_int)) alO_none)))
          (alE_cons (Al.ti (alE_cat (al_var rfl dd) (alE_tup (alE_cons (Al.ii (al_ixT (R := fun _ v => v = .int nn) (al_var rfl ⟨rfl, hba⟩) alx_c rfl rfl)) alE_nil)))) (alE_cons (Al.ti (alE_cat (alE_tup (alE_cons (al_un al_int) alE_nil)) (al_var rfl dd))) alE_nil)))))))) (fun f6 H6 s6 d6 => ?_)
        have f6' := f5.same s6
        have dd6 := Mo.mo s6 dd
        refine set_al f6' (alE_catL (E := TIs K [t] 12) (al_var rfl d6) (alE_lst (E := TIs K [t] 12) (alE_cons (Al.ti (alE_cat (alE_sliceTo (c := 1) (al_var rfl dd6)) (al_var rfl dd6))) (alE_cons (Al.ti (alE_cat (alE_cat (alE_sliceAB (c := 2) (al_var rfl dd6) (alO_some al_int)) (alE_sliceTo (c := 1) (al_var rfl dd6))) (alE_slice (al_var rfl dd6) (alO_some al_int) alO_none)))
          (alE_cons (Al.ti (alE_tup (alE_cons al_int (alE_cons al_int (alE_cons al_int alE_nil))))) (alE_cons (Al.ti (alE_tup (alE_cons al_int (alE_cons al_int (alE_cons al_int alE_nil))))) (alE_cons (Al.ti (alE_tup (alE_cons al_int (alE_cons al_int (alE_cons al_int (alE_cons al_int alE_nil)))))) alE_nil))))))) (fun f7 H7 s7 d7 => ?_)
        have f7' := f6'.same s7
        have dd7 := Mo.mo s7 dd6
        have s57 := s6.trans s7
        have hba7 := s57.seqT hba
        refine ret_al f7' (alE_catL (E := TIs K [t] 12) (al_var rfl d7) (alE_lst (E := TIs K [t] 12) (alE_cons (Al.ti (alE_cat (al_var rfl dd7) (alE_tup (alE_cons (al_op0 (Al.ii (al_ixT (R := fun _ v => v = .int nn) (al_var rfl ⟨rfl, hba7⟩) alx_c rfl rfl)) (al_var rfl ⟨_, rfl⟩)) alE_nil)))) (alE_cons (Al.ti (alE_tup (alE_cons (al_op0 (al_un al_int) (al_var rfl ⟨_, rfl⟩)) alE_nil))) (alE_cons (Al.ti (alE_tup (alE_cons al_int (alE_cons al_int alE_nil)))) alE_nil))))) (fun v H8 s8 d8 => ?_)
        have s58 := s57.trans s8
        obtain ⟨p8, xs8, rfl, hp8, hl8, hd8⟩ := d8
        exact k p8 xs8 H8 (b5.trans (But.of s58)) (T5.same s58) (Vw.sub _ _ hp8) fun z hz => (hd8 z hz).ints
end
end Ab
set_option Elab.async false
set_option linter.all false
set_option maxRecDepth 100000
namespace Ab
open PySem L2
theorem b_any : bootBuiltins "any" = some (.builtin "any") := by decide +kernel
theorem pi_tupK {X : Cx} {K : PySem.W.Frag} {tg l : Expr} {tl : TE} (hK : X.K = K) (hl : PE X l tl) : PI X tg l (iTup K tl) := by subst hK; exact pi_tup hl
theorem sorted_eq : ∀ {l m : List Int}, l.Pairwise (· < ·) → m.Pairwise (· < ·) → (∀ k, k ∈ l ↔ k ∈ m) → l = m
  | [], [], _, _, _ => rfl
  | [], b :: m, _, _, h => absurd ((h b).mpr (List.mem_cons_self ..)) List.not_mem_nil
  | a :: l, [], _, _, h => absurd ((h a).mp (List.mem_cons_self ..)) List.not_mem_nil
  | a :: l, b :: m, hl, hm, h => by
    obtain ⟨l1, l2⟩ := List.pairwise_cons.mp hl
    obtain ⟨m1, m2⟩ := List.pairwise_cons.mp hm
    have e : a = b := by
      rcases List.mem_cons.mp ((h a).mp (List.mem_cons_self ..)) with z | z
      · exact z
      · rcases List.mem_cons.mp ((h b).mpr (List.mem_cons_self ..)) with y | y
        · exact y.symm
        · have := m1 a z; have := l1 b y; omega
    subst e
    refine congrArg _ (sorted_eq l2 m2 fun k => ⟨fun hk => ?_, fun hk => ?_⟩)
    · rcases List.mem_cons.mp ((h k).mp (List.mem_cons_of_mem _ hk)) with z | z
      · have := l1 k hk; omega
      · exact z
    · rcases List.mem_cons.mp ((h k).mpr (List.mem_cons_of_mem _ hk)) with z | z
      · have := m1 k hk; omega
      · exact z
def goodB (n : Int) (ls : List Int) : Bool := ls.isEmpty || isWork n (workD ls)
theorem good_iff {n : Int} {ls : List Int} : goodB n ls = true ↔ ls.Pairwise (· < ·) ∧ ∀ h ∈ ls, 0 ≤ h ∧ h < n := by
  unfold goodB
  cases ls with
  | nil => exact ⟨fun _ => ⟨.nil, fun _ h => (List.not_mem_nil h).elim⟩, fun _ => rfl⟩
  | cons a r =>
    show (false || _) = true ↔ _
    rw [Bool.false_or]
    constructor
    · intro h
      obtain ⟨_, w2, w3⟩ := work_parts h
      exact ⟨w3, w2⟩
    · rintro ⟨h1, h2⟩
      exact work_of (by simp) h2 h1
def scInner : Scope := relS { kind := .function, names := [(".0", .local), ("able", .local), ("some", .free)], isGenerator := false, isCoroutine := false } (defScope sMore)
section
variable {P : Program} {w : World} {K : PySem.W.Frag} {mg : Str → Option Value} {base : Heap}
def spMore (K : PySem.W.Frag) : Sp := fun vs H Q _ => ∃ (x : V) (q p : Addr) (n : Int) (ws : List (List Int)) (rs ls : List Int), vs = [x, .ref q, .ref p] ∧ Den K H (bookD n ws) x ∧ isBook (bookD n ws) = true ∧ SqT K H q (rs.map V.int) ∧ RoomsOk n rs ∧ SqT K H p (ls.map V.int) ∧ ls.length ≤ 12 ∧ ∀ H', Same H H' → Q (if goodB n ls = true then .int (overI ws rs ls) else .non) H'
theorem scMore : FnScope ["book", "rooms", "some", "inside"] ["book", "rooms", "some"] (defScope sMore) := ⟨rfl, rfl, rfl, by decide +kernel, rfl, by decide +kernel, by decide +kernel⟩
set_option maxHeartbeats 2000000 in
theorem ok_more {f : Addr} {fd : FuncData} (G : Fn K mg "_law_b_more" sMore ["book", "rooms", "some"] f fd) (B : Bl mg) : FnOk P w K mg base CX0 1 f fd ["book", "rooms", "some"] (spMore K) := by
  refine G.fn.ok scMore (fun vs H Q E h => ?_) (fun cdv A outer s H vs Q E hr h => ?_)
  · obtain ⟨x, q, p, n, ws, rs, ls, rfl, _⟩ := h
    rfl
  · obtain ⟨x, q, p, n, ws, rs, ls, rfl, hx, hb, hq, hro, hp, hl12, k⟩ := h
    refine ⟨_, (pss_cons (ps_if (PW.pt (pw_or (pt_cmpR (op_neD hr.u64) (pe_callTy call_list_of rfl B.list b_list (pa_cons (pv 2) pa_nil)) (pe_callB (call_sortedI rfl) rfl B.sorted b_sorted (pa_cons (pe_callTy (call_setT (K := K) rfl rfl) rfl B.set b_set (pa_cons (pv 2) pa_nil)) pa_nil)) (nomark _)) (pw_or1 (pt_val (pe_callB (call_any rfl) rfl B.any b_any (pa_cons (pe_comp (own := ["hand"]) (fr := [0]) (frn := ["book"]) (compOk_of (defScope sMore) ["book", "rooms", "some", "inside"] rfl rfl (by decide +kernel)) rfl (pi_tup (pv 2))
        (fun _ _ _ _ => (pg_name (i := 0) (show (["hand", "book"] : List Str).Nodup by decide +kernel) rfl (Or.inl rfl))) (fun _ _ _ _ => pf_nil)
        (fun _ _ _ _ => (pe_or (pe_cmpR op_lt (pv 0) pe_int (nomark _)) (pe_one (pe_cmpR op_ge (pv 0) (pe_ix (ix_tupK (K := K) rfl) (pv 1) pe_int (fun _ _ => rfl)) (nomark _)))))) pa_nil))))))
      (pss_one (ps_ret pe_non))
      pss_nil)
    (pss_cons (ps_setcomp (i := 3) (own := ["able"]) (fr := [2]) (frn := ["some"]) (compOk_of (defScope sMore) ["book", "rooms", "some", "inside"] rfl rfl (by decide +kernel)) rfl scMore.nd rfl rfl rfl (pi_tup (pe_ix ix_tup (pv 0) pe_int (fun _ _ => rfl)))
        (fun _ _ _ _ => (pg_name (i := 0) (show (["able", "some"] : List Str).Nodup by decide +kernel) rfl (Or.inl rfl))) (fun _ _ _ _ => pf_one (pt_cmpR (op_eqDK (K := K) rfl hr.u64) (pe_comp (own := ["hand"]) (fr := [1]) (frn := ["some"]) (compOk_of scInner ["able", "some"] rfl rfl (by decide +kernel)) rfl (pi_tupK (K := K) rfl (pv 0))
        (fun _ _ _ _ => (pg_name (i := 0) (show (["hand", "some"] : List Str).Nodup by decide +kernel) rfl (Or.inl rfl))) (fun _ _ _ _ => pf_one (pt_cmpR (op_notIn_seqK (K := K) rfl) (pv 0) (pv 1) (by with_unfolding_all rfl)))
        (fun _ _ _ _ => (pv 0))) (pe_lst pa_nil) (nomark _)))
        (fun _ _ _ _ => (pv 0)))
    (pss_one (ps_ret (pe_op op_sub (pe_callB call_len_seq rfl B.len b_len (pa_cons (pv 3) pa_nil)) (pe_callB (call_sum rfl) rfl B.sum b_sum (pa_cons (pe_comp (own := ["hand"]) (fr := [1]) (frn := ["rooms"]) (compOk_of (defScope sMore) ["book", "rooms", "some", "inside"] rfl rfl (by decide +kernel)) rfl (pi_tup (pv 2))
        (fun _ _ _ _ => (pg_name (i := 0) (show (["hand", "rooms"] : List Str).Nodup by decide +kernel) rfl (Or.inl rfl))) (fun _ _ _ _ => pf_nil)
        (fun _ _ _ _ => (pe_ix (ix_tupK (K := K) rfl) (pv 1) (pv 0) (fun _ _ => rfl)))) pa_nil))))))), ?_⟩
    obtain ⟨hn1, hn6, hw12, hws⟩ := book_parts hb
    obtain ⟨a, b, ys, rfl, ha, hb2, hys⟩ := den_book hx
    have hlw := denAll_length hys
    rw [List.length_map] at hlw
    refine ⟨_, rfl, p, _, rfl, .inr hp, fun lp hlp => ?_⟩
    have s1 := Same.new (o := .lst (ls.map V.int)) hlp
    have e1 : upd H lp (.lst (ls.map V.int)) lp = some (.lst (ls.map V.int)) := upd_same
    generalize upd H lp (.lst (ls.map V.int)) = H1 at s1 e1 ⊢
    refine ⟨_, rfl, p, ls, rfl, s1.seqT hp, hl12, fun sp hsp => ⟨sp, ls, rfl, upd_same, hl12, fun op out hout hop => ?_⟩⟩
    have s2 := (Same.new (o := SetI _ sp ls) hsp).trans (Same.new (o := .lst (out.map V.int)) hop)
    refine ⟨.list (ls.map .int), .list (out.map .int), den_lints.mpr ⟨lp, rfl, s2.seqL (SqL.of e1)⟩, den_lints.mpr ⟨op, rfl, SqL.of upd_same⟩, noDict_ints _, noDict_ints _, shaped_ints _, shaped_ints _, _, rfl, ?_⟩
    rw [eqv_lints]
    have s12 := s1.trans s2
    generalize upd (upd H1 sp (SetI _ sp ls)) op (.lst (out.map V.int)) = H2 at s2 s12 ⊢
    by_cases hlo : ls = out
    · rw [decide_eq_true hlo]
      refine iteF ?_
      have hrise : ls.Pairwise (· < ·) := by rw [hlo]; exact hout.1
      have hp2 := s12.seqT hp
      refine ⟨_, rfl, p, rfl, ⟨_, hp2⟩, comp_fnT (K := K) (a := p) (xs := ls.map V.int) (vs := (ls.map fun h => decide (h < 0) || decide (n ≤ h)).map V.bl) (fun σ => ∃ v, σ = [v, some (.ref a)]) (by rw [List.length_map]; omega) (by rw [List.length_map, List.length_map, List.length_map]) hp2 ⟨none, rfl⟩ ?_ ?_⟩
      · rintro i xv v σ H3 hxv hv ⟨v0, rfl⟩ s3 Q' hQ'
        obtain ⟨h, hh, rfl⟩ := of_map hxv
        have ev : v = V.bl (decide (h < 0) || decide (n ≤ h)) := by
          rw [List.getElem?_map, List.getElem?_map, hh] at hv
          exact (Option.some.inj hv).symm
        rw [ev] at hQ'
        refine ⟨_, rfl, _, _, rfl, rfl, _, rfl, ?_⟩
        by_cases hneg : h < 0
        · rw [decide_eq_true hneg] at hQ' ⊢
          exact iteT (hQ' _ _ ⟨_, rfl⟩ (Same.refl _))
        · rw [decide_eq_false hneg] at hQ' ⊢
          refine iteF ?_
          refine ⟨_, rfl, _, rfl, a, _, 0, .int n, rfl, rfl, s3.seqT (s12.seqT ha), rfl, _, _, rfl, rfl, ?_⟩
          exact hQ' _ _ ⟨_, rfl⟩ (Same.refl _)
      · rintro H3 s3 z hz
        refine ⟨z, _, rfl, SqL.of upd_same, _, rfl, ?_⟩
        have s4 := (s12.trans s3).trans (Same.new (o := .lst ((ls.map fun h => decide (h < 0) || decide (n ≤ h)).map V.bl)) hz)
        generalize upd H3 z (.lst ((ls.map fun h => decide (h < 0) || decide (n ≤ h)).map V.bl)) = H4 at s4 ⊢
        refine ite2 (fun c => ?_) (fun c => ?_)
        · have e : ¬ goodB n ls = true := fun hg => by
            rw [List.any_map, List.any_eq_true] at c
            obtain ⟨h, hh, ch⟩ := c
            have := (good_iff.mp hg).2 h hh
            have ch : (decide (h < 0) || decide (n ≤ h)) = true := ch
            rw [Bool.or_eq_true, decide_eq_true_iff, decide_eq_true_iff] at ch
            omega
          rw [if_neg e] at k
          exact k _ s4
        have hin : ∀ h ∈ ls, 0 ≤ h ∧ h < n := fun h hh => by
          rw [List.any_map, Bool.not_eq_true, List.any_eq_false] at c
          have ch := c h hh
          have ch : ¬ (decide (h < 0) || decide (n ≤ h)) = true := ch
          rw [Bool.or_eq_true, decide_eq_true_iff, decide_eq_true_iff] at ch
          omega
        rw [if_pos (good_iff.mpr ⟨hrise, hin⟩)] at k
        have hp4 := s4.seqT hp
        have hq4 := s4.seqT hq
        refine ⟨_, rfl, a, _, 1, .ref b, rfl, rfl, s4.seqT ha, rfl, b, rfl, ⟨_, s4.seqT hb2⟩, comp_tup (K := K) (a := b) (xs := ys) (fun σ => ∃ v, σ = [v, some (.ref p)]) (fun i zs H5 => Same H4 H5 ∧ zs.length = ((ws.take i).filter fun l => l.all fun h => ls.any (· == h)).length) (size1 (by omega)) ⟨none, rfl⟩ ⟨Same.refl _, rfl⟩ ?_ ?_ ?_ ?_⟩
        · rintro i zs H5 ⟨_, hz⟩
          rw [hz]
          exact Nat.le_trans (List.length_filter_le _ _) (by rw [List.length_take]; omega)
        · rintro i zs H5 ⟨s5, _⟩
          exact (s4.trans s5).seqT hb2
        · rintro i zs σ u H5 hu ⟨v0, rfl⟩ ⟨s5, hzl⟩ hz5
          obtain ⟨dv, hdv, denv⟩ := denAll_at hys hu
          rw [List.getElem?_map] at hdv
          obtain ⟨l, hl, rfl⟩ : ∃ l, ws[i]? = some l ∧ workD l = dv := by
            cases q : ws[i]? with
            | none => rw [q] at hdv; cases hdv
            | some l => rw [q] at hdv; exact ⟨l, rfl, Option.some.inj hdv⟩
          obtain ⟨aw, rfl, haw⟩ := den_tints.mp denv
          obtain ⟨w1, w2, w3⟩ := work_parts (hws l (List.mem_of_getElem? hl))
          have hl6 := work_short (by omega) w2 w3
          have etake : ws.take (i + 1) = ws.take i ++ [l] := by rw [List.take_succ, hl]; rfl
          have s45 := s4.trans s5
          have haw5 := s45.seqT haw
          refine ⟨_, rfl, aw, rfl, ⟨_, haw5⟩, comp_tup (K := K) (a := aw) (xs := l.map V.int) (fun σ => ∃ v, σ = [v, some (.ref p)]) (fun j ys H6 => Same H5 H6 ∧ ys = ((l.take j).filter fun h => !ls.any (· == h)).map V.int) (size1 (by rw [List.length_map]; omega)) ⟨none, rfl⟩ ⟨Same.refl _, rfl⟩ ?_ ?_ ?_ ?_⟩
          · rintro j ys H6 ⟨_, rfl⟩
            rw [List.length_map]
            exact Nat.le_trans (List.length_filter_le _ _) (by rw [List.length_take]; omega)
          · rintro j ys H6 ⟨s6, _⟩
            exact s6.seqT haw5
          · rintro j ys σ u H6 hu6 ⟨v0, rfl⟩ ⟨s6, rfl⟩ hz6
            obtain ⟨h, hh, rfl⟩ := of_map hu6
            have et : l.take (j + 1) = l.take j ++ [h] := by rw [List.take_succ, hh]; rfl
            refine ⟨_, rfl, _, rfl, p, _, rfl, .inr ((s45.trans s6).seqT hp), rfl, flat_ints _, _, rfl, ?_⟩
            rw [in_ints]
            cases hany : ls.any (· == h) with
            | true =>
              refine iteF ?_
              refine ⟨⟨_, rfl⟩, s6, ?_⟩
              rw [et, List.filter_append, List.filter_cons_of_neg (p := fun h => !ls.any (· == h)) (a := h) (l := []) (by rw [hany]; decide), List.filter_nil, List.append_nil]
            | false =>
              refine iteT ?_
              refine ⟨_, rfl, hz6, ⟨_, rfl⟩, s6, ?_⟩
              rw [et, List.filter_append, List.filter_cons_of_pos (p := fun h => !ls.any (· == h)) (a := h) (l := []) (by rw [hany]; rfl), List.filter_nil, List.map_append]
              rfl
          · rintro ys H6 ⟨s6, rfl⟩ zp hzp
            rw [List.length_map, List.take_length]
            refine ⟨size1 (Nat.zero_le _), fun ep hep => ?_⟩
            have s7 := (Same.new (o := .lst ((l.filter fun h => !ls.any (· == h)).map V.int)) hzp).trans (Same.new (o := .lst []) hep)
            refine ⟨.list ((l.filter fun h => !ls.any (· == h)).map .int), .list (([] : List Int).map .int), den_lints.mpr ⟨zp, rfl, (Same.new hep).seqL (SqL.of upd_same)⟩, den_lints.mpr ⟨ep, rfl, SqL.of upd_same⟩, noDict_ints _, noDict_ints _, shaped_ints _, shaped_ints _, _, rfl, ?_⟩
            rw [eqv_lints]
            have s57 := s6.trans s7
            generalize upd (upd H6 zp (.lst ((l.filter fun h => !ls.any (· == h)).map V.int))) ep (.lst []) = H7 at s57 ⊢
            have eall : decide ((l.filter fun h => !ls.any (· == h)) = []) = l.all fun h => ls.any (· == h) := by
              rw [Bool.eq_iff_iff, decide_eq_true_iff, List.filter_eq_nil_iff, List.all_eq_true]
              refine forall_congr' fun h => forall_congr' fun _ => ?_
              cases ls.any (· == h) <;> simp
            rw [eall]
            refine ite2 (fun c => ?_) (fun c => ?_)
            · refine ⟨_, rfl, hz5, ⟨_, rfl⟩, s5.trans s57, ?_⟩
              rw [etake, List.filter_append, List.length_append, List.length_append, hzl]
              congr 1
              rw [List.filter_cons_of_pos (p := fun l : List Int => l.all fun h => ls.any (· == h)) (a := l) (l := []) c]; rfl
            · refine ⟨⟨_, rfl⟩, s5.trans s57, ?_⟩
              rw [etake, List.filter_append, List.length_append, hzl, List.filter_cons_of_neg (p := fun l : List Int => l.all fun h => ls.any (· == h)) (a := l) (l := []) c]; rfl
        · rintro zs H5 ⟨s5, hzl⟩ z5 hz5
          rw [hlw, List.take_length] at hzl
          have s6 := (s4.trans s5).trans (Same.new (o := .lst zs) hz5)
          have e6 : upd H5 z5 (.lst zs) z5 = some (.lst zs) := upd_same
          generalize upd H5 z5 (.lst zs) = H6 at s6 e6 ⊢
          refine ⟨_, rfl, z5, _, rfl, .inl (SqL.of e6), ?_⟩
          rw [hzl]
          have hp6 := s6.seqT hp
          have hq6 := s6.seqT hq
          refine ⟨_, rfl, p, rfl, ⟨_, hp6⟩, comp_fnT (K := K) (a := p) (xs := ls.map V.int) (vs := (ls.map fun h => rs.getD h.toNat 0).map V.int) (fun σ => ∃ v, σ = [v, some (.ref q)]) (by rw [List.length_map]; omega) (by rw [List.length_map, List.length_map, List.length_map]) hp6 ⟨none, rfl⟩ ?_ ?_⟩
          · rintro i xv v σ H7 hxv hv ⟨v0, rfl⟩ s7 Q' hQ'
            obtain ⟨h, hh, rfl⟩ := of_map hxv
            obtain ⟨h0, h1⟩ := hin h (List.mem_of_getElem? hh)
            have ev : v = V.int (rs.getD h.toNat 0) := by
              rw [List.getElem?_map, List.getElem?_map, hh] at hv
              exact (Option.some.inj hv).symm
            have hlt : h.toNat < rs.length := by rw [hro.1]; omega
            have hat : atI (rs.map V.int) h = some (.int (rs.getD h.toNat 0)) := by
              have e := atI_nat (xs := rs.map V.int) (j := h.toNat) (v := .int (rs.getD h.toNat 0)) (by rw [List.getElem?_map, List.getD_eq_getElem?_getD, List.getElem?_eq_getElem hlt]; rfl)
              rwa [show ((h.toNat : Nat) : Int) = h by omega] at e
            refine ⟨_, rfl, _, rfl, q, _, h, _, rfl, rfl, s7.seqT hq6, hat, ?_⟩
            rw [ev] at hQ'
            exact hQ' _ _ ⟨_, rfl⟩ (Same.refl _)
          · rintro H7 s7 z2 hz2
            refine ⟨z2, ls.map fun h => rs.getD h.toNat 0, rfl, SqL.of upd_same, fun y hy => ?_, by rw [List.length_map]; omega, _, _, rfl, rfl, ?_⟩
            · obtain ⟨h, _, rfl⟩ := List.mem_map.mp hy
              exact sumTo_rooms hro h
            · exact k _ (s6.trans (s7.trans (Same.new hz2)))
    · rw [decide_eq_false hlo]
      refine iteT ?_
      refine iteT ?_
      have e : ¬ goodB n ls = true := fun hg => hlo (sorted_eq (good_iff.mp hg).1 hout.1 fun h => (hout.2 h).symm)
      rw [if_neg e] at k
      exact k _ s12
end
end Ab
set_option Elab.async false
set_option linter.all false
set_option maxRecDepth 100000
namespace L2
open PySem
theorem seq_mid {a b : TS} {D : Ends} {σ : St} {H : Hp} (I : St → Hp → Prop) (h1 : ∀ N : St → Hp → Prop, (∀ σ H, I σ H → N σ H) → a { D with nx := N } σ H) (h2 : ∀ σ H, I σ H → b D σ H) : tSeq a b D σ H := h1 _ h2
def AskE (K : PySem.W.Frag) (P : Int → Bool) (H : Hp) (v : V) : Prop := ∃ (r : Addr) (m : Int), v = .ref r ∧ SqT K H r [.int m, .bl (P m)]
instance {K : PySem.W.Frag} {P : Int → Bool} : Mo (AskE K P) := ⟨fun e ⟨r, m, h1, h2⟩ => ⟨r, m, h1, e.seqT h2⟩⟩
theorem al_ask {K : PySem.W.Frag} {P : Int → Bool} {H0 : Hp} {S : List Addr} {σ : St} {ta : TE} {m : Int} {b : Bool} (ha : Al H0 S ta σ fun _ v => v = .int m) (hb : P m = b) : Al H0 S (tTup (tCons ta (tCons (tC (.bl b)) tNil))) σ (AskE K P) := fun H s f Q k => ha H s f _ fun v H1 s1 e => ⟨Nat.le_of_lt (small1000 (show 2 ≤ 1000 by decide)), fun p hp => k _ _ (s1.trans (Same.new hp)) ⟨p, m, rfl, by rw [hb, ← e]; exact SqT.of upd_same⟩⟩
end L2
namespace Ab
open PySem L2
theorem sum_le {rs : List Int} (h : ∀ r ∈ rs, 0 ≤ r ∧ r ≤ 12) : ∀ l : List Int, 0 ≤ sumTo (l.map fun x => rs.getD x.toNat 0) ∧ sumTo (l.map fun x => rs.getD x.toNat 0) ≤ 12 * l.length
  | [] => ⟨Int.le_refl _, Int.le_refl _⟩
  | x :: l => by
    have ih := sum_le h l
    have hx : 0 ≤ rs.getD x.toNat 0 ∧ rs.getD x.toNat 0 ≤ 12 := by
      rw [List.getD_eq_getElem?_getD]
      cases q : rs[x.toNat]? with
      | none => exact ⟨Int.le_refl _, by decide⟩
      | some r => exact h r (List.mem_of_getElem? q)
    rw [List.map_cons, show ∀ (y : Int) (r : List Int), sumTo (y :: r) = y + sumTo r from fun _ _ => rfl, List.length_cons]
    constructor
    · omega
    · omega
section
variable {P : Program} {w : World} {K : PySem.W.Frag} {mg : Str → Option Value} {base : Heap}
def spBarR (K : PySem.W.Frag) : Sp := fun vs H Q _ => ∃ (x : V) (q p : Addr) (n : Int) (ws : List (List Int)) (rs ls : List Int) (far : Int), vs = [x, .ref q, .ref p, .int far] ∧ Den K H (bookD n ws) x ∧ isBook (bookD n ws) = true ∧ SqT K H q (rs.map V.int) ∧ RoomsOk n rs ∧ SqT K H p (ls.map V.int) ∧ ls.length ≤ 12 ∧ 1000 ≤ far ∧ ∀ H', Same H H' → Q (.bl true) H'
theorem scBarR : FnScope ["book", "rooms", "some", "far", "due", "asks", "number", "word", "found"] ["book", "rooms", "some", "far"] (defScope sBarR) := ⟨rfl, rfl, rfl, by decide +kernel, rfl, by decide +kernel, by decide +kernel⟩
set_option maxHeartbeats 2000000 in
theorem ok_barR {f fM fO : Addr} {fd dM dO : FuncData} (G : Fn K mg "_law_b_bar_right" sBarR ["book", "rooms", "some", "far"] f fd) (B : Bl mg) (GM : Fn K mg "_law_b_more" sMore ["book", "rooms", "some"] fM dM) (GDb : Fn K mg "do_bar" sDoBar ["book", "rooms", "some", "number"] fO dO) (ODb : FnOk P w K mg base CX0 7 fO dO ["book", "rooms", "some", "number"] (spDoBar K)) : FnOk P w K mg base CX0 8 f fd ["book", "rooms", "some", "far"] (spBarR K) := by
  have OM : FnOk P w K mg base CX0 1 fM dM ["book", "rooms", "some"] (spMore K) := ok_more GM B
  refine G.fn.ok scBarR (fun vs H Q E h => ?_) (fun cdv A outer s H vs Q E hr h => ?_)
  · obtain ⟨x, q, p, n, ws, rs, ls, far, rfl, _⟩ := h
    rfl
  · obtain ⟨x, q, p, n, ws, rs, ls, far, rfl, hx, hb, hq, hro, hp, hl12, hfar, k⟩ := h
    have r7 : Room 7 _ := hr
    have r1 : Room 1 _ := hr.mono (by decide)
    refine ⟨_, (pss_cons (ps_set (i := 4) scBarR.nd rfl (Or.inl rfl) (pe_fn GM OM r1 rfl (pa_cons (pv 0) (pa_cons (pv 1) (pa_cons (pv 2) pa_nil)))))
    (pss_cons (ps_set (i := 5) scBarR.nd rfl (Or.inl rfl) (pe_lst (pa_cons (pe_tup (pa_cons pe_int (pa_cons pe_bl pa_nil))) (pa_cons (pe_tup (pa_cons (pe_op op_sub pe_int (pv 3)) (pa_cons pe_bl pa_nil))) (pa_cons (pe_tup (pa_cons (pv 3) (pa_cons pe_bl pa_nil))) pa_nil)))))
    (pss_cons (ps_if (pt_cmpR op_notN (pv 4) pe_non (nomark _))
      (pss_one (ps_set (i := 5) scBarR.nd rfl (Or.inl rfl) (pe_lst (pa_cons (pe_tup (pa_cons (pv 4) (pa_cons pe_bl pa_nil))) (pa_cons (pe_tup (pa_cons (pe_op op_add (pv 4) pe_int) (pa_cons pe_bl pa_nil))) (pa_cons (pe_tup (pa_cons (pe_op op_sub pe_int (pv 3)) (pa_cons pe_bl pa_nil))) (pa_cons (pe_tup (pa_cons (pv 3) (pa_cons pe_bl pa_nil))) pa_nil)))))))
      pss_nil)
    (pss_cons (ps_for PassesOwn.never rfl (pi_list (pv 5)) (pg_tup rfl (pgs_cons (pg_name (i := 6) scBarR.nd rfl (Or.inl rfl)) (pgs_cons (pg_name (i := 7) scBarR.nd rfl (Or.inl rfl)) pgs_nil)))
      (pss_cons (ps_set (i := 8) scBarR.nd rfl (Or.inl rfl) (pe_fn GDb ODb r7 rfl (pa_cons (pv 0) (pa_cons (pv 1) (pa_cons (pv 2) (pa_cons (pv 6) pa_nil))))))
    (pss_one (ps_if (PW.pt (pw_or (pt_not (pt_val (pe_callB call_isi_bool rfl B.isinstance b_isi (pa_cons (pv 8) (pa_cons (pe_bltn (v := .ty "bool") rfl B.bool b_bool rfl) pa_nil))))) (pw_or1 (pt_cmpR op_ne (pv 8) (pv 7) (nomark _)))))
      (pss_one (ps_ret pe_bl))
      pss_nil))))
    (pss_one (ps_ret pe_bl)))))), ?_⟩
    obtain ⟨hn1, hn6, hw12, hws⟩ := book_parts hb
    have hov : -144 ≤ overI ws rs ls ∧ overI ws rs ls ≤ 12 := by
      have h1 := sum_le hro.2 ls
      have h2 := List.length_filter_le (fun l : List Int => l.all fun h => ls.any (· == h)) ws
      unfold overI
      omega
    have hPg : goodB n ls = true → ∀ m, doBarB n ws rs ls m = decide (m ≤ overI ws rs ls) := fun hg m => by
      show (goodB n ls && _) = _
      rw [hg, Bool.true_and]
    have hPn : goodB n ls = false → ∀ m, doBarB n ws rs ls m = false := fun hg m => by
      show (goodB n ls && _) = _
      rw [hg, Bool.false_and]
    refine ⟨_, rfl, _, rfl, _, rfl, x, q, p, n, ws, rs, ls, rfl, hx, hb, hq, hro, hp, hl12, fun H1 s1 => ?_⟩
    dsimp only [gName]
    refine set_al (S := []) Fx.nil (alE_lst (E := AskE K fun _ => false) (alE_cons (al_ask alx_c rfl) (alE_cons (al_ask (alx_op alx_c (alx_var rfl)) rfl) (alE_cons (al_ask (alx_var rfl) rfl) alE_nil)))) (fun a1 H2 s2 d2 => ?_)
    have s12 := s1.trans s2
    refine seq_mid (fun σ H3 => ∃ av v6 v7 v8, σ = [some x, some (.ref q), some (.ref p), some (.int far), some (if goodB n ls = true then .int (overI ws rs ls) else .non), some av, v6, v7, v8] ∧ Same H H3 ∧ LTe [] (AskE K (doBarB n ws rs ls)) 4 H3 av) (fun N hN => ?_) ?_
    · cases hg : goodB n ls with
      | false =>
        rw [hg] at hN
        refine ⟨_, rfl, rfl, _, rfl, ?_⟩
        refine iteF ?_
        refine hN _ _ ⟨a1, _, _, _, rfl, s12, ?_⟩
        obtain ⟨r, xs, h1, h2, h3, h4⟩ := d2
        refine ⟨r, xs, h1, h2, by omega, fun y hy => ?_⟩
        obtain ⟨r', m, e1, e2⟩ := h4 y hy
        exact ⟨r', m, e1, by rw [hPn hg]; exact e2⟩
      | true =>
        rw [hg] at hN
        have hP := hPg hg
        refine ⟨_, rfl, rfl, _, rfl, ?_⟩
        refine iteT ?_
        refine asg_al (S := []) Fx.nil (alE_lst (E := AskE K (doBarB n ws rs ls)) (alE_cons (al_ask (alx_var (v := .int (overI ws rs ls)) rfl) (by rw [hP]; exact decide_eq_true (Int.le_refl _))) (alE_cons (al_ask (alx_op (alx_var (v := .int (overI ws rs ls)) rfl) alx_c) (by rw [hP]; exact decide_eq_false (by omega))) (alE_cons (al_ask (alx_op alx_c (alx_var rfl)) (by rw [hP]; exact decide_eq_true (by omega))) (alE_cons (al_ask (alx_var rfl) (by rw [hP]; exact decide_eq_false (by omega))) alE_nil))))) (fun a2 H3 s3 d3 => ?_)
        exact hN _ _ ⟨a2, _, _, _, rfl, s12.trans s3, d3⟩
    · rintro σ H3 ⟨av, v6, v7, v8, rfl, s3, ar, xs, rfl, har, _, hxs⟩
      have har3 : H3 ar = some (.lst xs) := Vw.sub _ _ har
      refine ⟨_, rfl, ar, rfl, ⟨_, SqL.of har3⟩, for_list (K := K) (a := ar) (xs := xs) (fun j σ H4 => (∃ v6 v7 v8, σ = [some x, some (.ref q), some (.ref p), some (.int far), some (if goodB n ls = true then .int (overI ws rs ls) else .non), some (.ref ar), v6, v7, v8]) ∧ Same H3 H4)
        ⟨⟨_, _, _, rfl⟩, Same.refl _⟩ (fun j σ H4 _ ⟨_, s4⟩ => s4.seqL (SqL.of har3)) ?_ ?_⟩
      · rintro j y σ H4 hy ⟨⟨v6, v7, v8, rfl⟩, s4⟩
        obtain ⟨r, m, rfl, hr4⟩ := hxs y (List.mem_of_getElem? hy)
        have s04 := s3.trans s4
        refine ⟨r, _, rfl, s4.seqT hr4, rfl, _, _, rfl, _, _, rfl, rfl, ?_⟩
        refine ⟨_, rfl, _, rfl, _, rfl, _, rfl, x, q, p, n, ws, rs, ls, m, rfl, s04.den _ _ hx, hb, s04.seqT hq, hro, s04.seqT hp, by omega, fun H5 s5 => ?_⟩
        refine ⟨_, rfl, _, _, rfl, (den_bool.mpr rfl : Den K H5 (.bool (doBarB n ws rs ls m)) (.bl (doBarB n ws rs ls m))).kd, _, rfl, ?_⟩
        refine iteF ?_
        refine ⟨_, rfl, _, rfl, rfl, _, rfl, ?_⟩
        rw [show (!decide (V.bl (doBarB n ws rs ls m) = V.bl (doBarB n ws rs ls m))) = false by simp]
        refine iteF ?_
        exact ⟨⟨_, _, _, rfl⟩, s4.trans s5⟩
      · rintro σ H4 ⟨⟨v6, v7, v8, rfl⟩, s4⟩
        exact k _ (s3.trans s4)
end
end Ab
set_option Elab.async false
set_option linter.all false
set_option maxRecDepth 100000
namespace Ab
open PySem L2
theorem tAnd_any {tA tB : TT} {σ : St} {H : Hp} {Q : Bool → Hp → Prop} (hA : ∀ R : Bool → Hp → Prop, (∀ b, R b H) → tA σ H R) (hB : ∀ R : Bool → Hp → Prop, (∀ b, R b H) → tB σ H R) (h : ∀ b, Q b H) : tAnd tA tB σ H Q := by
  refine hA _ fun b => ?_
  cases b with
  | false => exact iteF (h false)
  | true => exact iteT (hB _ h)
theorem op_neSelf (v : V) : (!decide (v = v)) = false := by simp
theorem lv_seq {m : Nat} {ds : List PyData} (h : ∀ d ∈ ds, LvD m d) (hn : ds.length ≤ 15) : LvD (m + 1) (.tuple ds) ∧ LvD (m + 1) (.list ds) := by
  refine ⟨⟨?_, ?_, ?_⟩, ⟨?_, ?_, ?_⟩⟩
  · rw [PyData.showable]; exact showableAll_of fun d hd => (h d hd).1
  · unfold PyData.depth; exact Nat.succ_le_succ (depthAll_le fun d hd => (h d hd).2.1)
  · rw [PyData.shown]
    exact lv_row (Nat.le_trans (tuple_len _) (Nat.add_le_add_left (piled_all fun d hd => (h d hd).2.2) _)) hn
  · rw [PyData.showable]; exact showableAll_of fun d hd => (h d hd).1
  · unfold PyData.depth; exact Nat.succ_le_succ (depthAll_le fun d hd => (h d hd).2.1)
  · rw [PyData.shown]
    exact lv_row (Nat.le_trans (list_len _) (Nat.le_trans (Nat.add_le_add_left (piled_all fun d hd => (h d hd).2.2) 2) (by omega))) hn
theorem lv_ints {l : List Int} (h : ∀ x ∈ l, x.natAbs < 10 ^ 38) (hn : l.length ≤ 15) : LvD 1 (.tuple (l.map .int)) := (lv_seq (m := 0) (fun d hd => by
  obtain ⟨i, hi, rfl⟩ := List.mem_map.mp hd
  exact lv_int (h i hi)) (by rw [List.length_map]; exact hn)).1
def keptD (n : Int) (ws : List (List Int)) (rs : List Int) : PyData := .list [bookD n ws, .tuple (rs.map .int)]
theorem lv_kept {n : Int} {ws : List (List Int)} {rs : List Int} (hb : isBook (bookD n ws) = true) (hr : RoomsOk n rs) : LvD 4 (keptD n ws rs) := by
  obtain ⟨hn1, hn6, hw12, hws⟩ := book_parts hb
  have h1 : LvD 2 (.tuple (ws.map workD)) := (lv_seq (m := 1) (fun d hd => by
    obtain ⟨l, hl, rfl⟩ := List.mem_map.mp hd
    obtain ⟨_, w2, w3⟩ := work_parts (hws l hl)
    exact lv_ints (fun x hx => by have := w2 x hx; omega) (by have := work_short (by omega) w2 w3; omega)) (by rw [List.length_map]; omega)).1
  have h2 : LvD 3 (bookD n ws) := (lv_seq (m := 2) (fun d hd => by
    rcases List.mem_cons.mp hd with rfl | hd
    · exact (lv_int (by omega)).up (by decide)
    · rw [List.mem_singleton.mp hd]; exact h1) (by simp)).1
  refine (lv_seq (m := 3) (fun d hd => ?_) (by simp)).2
  rcases List.mem_cons.mp hd with rfl | hd
  · exact h2
  · rw [List.mem_singleton.mp hd]
    exact (lv_ints (fun x hx => by have := hr.2 x hx; omega) (by rw [hr.1]; omega)).up (by decide)
section
variable {P : Program} {w : World} {K : PySem.W.Frag} {mg : Str → Option Value} {base : Heap}
def AsksOk (K : PySem.W.Frag) (H : Hp) (ap : Addr) (n : Int) : Prop := ∃ xs, H ap = some (.lst xs) ∧ ∀ y ∈ xs, ∃ (r : Addr) (x : V) (q : Addr) (ws : List (List Int)) (rs : List Int), y = .ref r ∧ SqT K H r [x, .ref q] ∧ Den K H (bookD n ws) x ∧ isBook (bookD n ws) = true ∧ SqT K H q (rs.map V.int) ∧ RoomsOk n rs
theorem AsksOk.but {H H' : Hp} {ap t a : Addr} {n : Int} {ns : List Int} (h : AsksOk K H ap n) (T : Tape K H t a ns) (hne : ap ≠ t) (b : But t H H') : AsksOk K H' ap n := by
  obtain ⟨xs, h1, h2⟩ := h
  refine ⟨xs, b _ _ hne h1, fun y hy => ?_⟩
  obtain ⟨r, x, q, ws, rs, e1, e2, e3, e4, e5, e6⟩ := h2 y hy
  have e3' : Den K H' (bookD n ws) x := by
    obtain ⟨⟨p, q, _, ht⟩, _⟩ := T
    exact b.den ht _ _ (noList_book n ws) e3
  exact ⟨r, x, q, ws, rs, e1, T.seqT b e2, e3', e4, T.seqT b e5, e6⟩
theorem AsksOk.same {H H' : Hp} {ap : Addr} {n : Int} (h : AsksOk K H ap n) (b : Same H H') : AsksOk K H' ap n := by
  obtain ⟨xs, h1, h2⟩ := h
  refine ⟨xs, b _ _ h1, fun y hy => ?_⟩
  obtain ⟨r, x, q, ws, rs, e1, e2, e3, e4, e5, e6⟩ := h2 y hy
  exact ⟨r, x, q, ws, rs, e1, b.seqT e2, b.den _ _ e3, e4, b.seqT e5, e6⟩
def spLaw (K : PySem.W.Frag) : Sp := fun vs H Q _ => ∃ (a : Addr) (ns : List Int), vs = [.ref a] ∧ SqL K H a (ns.map V.int) ∧ ∀ H', Q (.bl true) H'
theorem scLaw : FnScope ["script", "tape", "k", "book", "most", "rooms", "kept", "asks", "deal", "shown", "page", "room", "found", "far", "some"] ["script"] (defScope sLaw) := ⟨rfl, rfl, rfl, by decide +kernel, rfl, by decide +kernel, by decide +kernel⟩
set_option maxHeartbeats 4000000 in
theorem ok_law {f fB fD fO fP fT fS fR fI fIr : Addr} {fd dB dD dO dP dT dS dR dI dIr : FuncData} (hK : K.lookup sysModules = none) (G : Fn K mg "law" sLaw ["script"] f fd) (B : Bl mg)
    (GB : Fn K mg "_law_b_book" sBook ["tape", "hands", "works"] fB dB) (GD : Fn K mg "_law_b_digit" sDigit ["tape", "many"] fD dD) (GO : Fn K mg "_law_b_other" sOther ["tape", "book"] fO dO) (GP : Fn K mg "_law_b_put" sPut ["tape", "book", "rooms"] fP dP) (GT : Fn K mg "_law_b_bent" sBent ["tape", "book", "deal"] fT dT) (GS : Fn K mg "_law_b_sets" sSets ["tape", "book"] fS dS)
    (GR : Fn K mg "_law_b_bar_right" sBarR ["book", "rooms", "some", "far"] fR dR) (GI : Fn K mg "_law_b_is_dealt" sDealt ["book", "rooms", "deal"] fI dI) (GIr : Fn K mg "is_in_rooms" sInRooms ["book", "rooms", "thing"] fIr dIr)
    (OB : FnOk P w K mg base CX0 4 fB dB ["tape", "hands", "works"] (spBook K)) (OD : FnOk P w K mg base CX0 2 fD dD ["tape", "many"] (spDigit K)) (OO : FnOk P w K mg base CX0 3 fO dO ["tape", "book"] (spOther K)) (OP : FnOk P w K mg base CX0 3 fP dP ["tape", "book", "rooms"] (spPut K)) (OT : FnOk P w K mg base CX0 3 fT dT ["tape", "book", "deal"] (spBent K)) (OS : FnOk P w K mg base CX0 3 fS dS ["tape", "book"] (spSets K))
    (OR : FnOk P w K mg base CX0 8 fR dR ["book", "rooms", "some", "far"] (spBarR K)) (OI : FnOk P w K mg base CX0 1 fI dI ["book", "rooms", "deal"] (spInR K)) (OIr : FnOk P w K mg base CX0 7 fIr dIr ["book", "rooms", "thing"] (spInR K)) :
    FnOk P w K mg base CX0 10 f fd ["script"] (spLaw K) := by
  refine G.fn.ok scLaw (fun vs H Q E h => ?_) (fun cdv A outer s H vs Q E hr h => ?_)
  · obtain ⟨a, ns, rfl, _⟩ := h
    rfl
  · obtain ⟨a, ns, rfl, hns, k⟩ := h
    have r1 : Room 1 _ := hr.mono (by decide)
    have r2 : Room 2 _ := hr.mono (by decide)
    have r3 : Room 3 _ := hr.mono (by decide)
    have r4 : Room 4 _ := hr.mono (by decide)
    have r7 : Room 7 _ := hr.mono (by decide)
    have r8 : Room 8 _ := hr.mono (by decide)
    refine ⟨_, (pss_cons (ps_set (i := 1) scLaw.nd rfl (Or.inr rfl) (pe_lst (pa_cons (pv 0) (pa_cons pe_int (pa_cons pe_int pa_nil)))))
    (pss_cons (ps_for PassesOwn.never rfl (pi_range1 rfl B.range (pa_cons pe_int pa_nil)) (pg_name (i := 2) scLaw.nd rfl (Or.inl rfl))
      (pss_cons (ps_if (PW.pt (pw_and (pt_cmpR op_gt (pv 2) pe_int (nomark _)) (pw_and1 (pt_cmpR op_ge (pe_ix ix_list (pv 1) pe_int (fun _ _ => rfl)) (pe_callB call_len_seq rfl B.len b_len (pa_cons (pv 0) pa_nil)) (nomark _)))))
      (pss_one ps_break)
      pss_nil)
    (pss_cons (ps_set (i := 3) scLaw.nd rfl (Or.inl rfl) (pe_fn GB OB r4 rfl (pa_cons (pv 1) (pa_cons pe_int (pa_cons pe_int pa_nil)))))
    (pss_cons (ps_set (i := 4) scLaw.nd rfl (Or.inr rfl) (pe_ix ix_list (pe_lst (pa_cons pe_int (pa_cons pe_int pa_nil))) (pe_fn GD OD r2 rfl (pa_cons (pv 1) (pa_cons pe_int pa_nil))) (fun _ _ => rfl)))
    (pss_cons (ps_set (i := 5) scLaw.nd rfl (Or.inl rfl) (pe_callTy call_tuple_of rfl B.tuple b_tuple (pa_cons (pe_comp (own := ["hand"]) (fr := [4, 1]) (frn := ["most", "tape"]) (compOk_of (defScope sLaw) ["script", "tape", "k", "book", "most", "rooms", "kept", "asks", "deal", "shown", "page", "room", "found", "far", "some"] rfl rfl (by decide +kernel)) rfl (pi_range1 rfl B.range (pa_cons (pe_ix ix_tup (pv 3) pe_int (fun _ _ => rfl)) pa_nil))
        (fun _ _ _ _ => (pg_name (i := 0) (show (["hand", "most", "tape"] : List Str).Nodup by decide +kernel) rfl (Or.inl rfl))) (fun _ _ _ _ => pf_nil)
        (fun _ _ _ _ => (pe_fn GD OD r2 rfl (pa_cons (pv 2) (pa_cons (pv 1) pa_nil))))) pa_nil)))
    (pss_cons (ps_set (i := 6) scLaw.nd rfl (Or.inl rfl) (pe_callB (call_reprD hr.gd hr.u64 hK) rfl B.repr b_repr (pa_cons (pe_lst (pa_cons (pv 3) (pa_cons (pv 5) pa_nil))) pa_nil)))
    (pss_cons (ps_set (i := 7) scLaw.nd rfl (Or.inl rfl) (pe_lst (pa_cons (pe_tup (pa_cons (pv 3) (pa_cons (pv 5) pa_nil))) (pa_cons (pe_tup (pa_cons (pe_fn GO OO r3 rfl (pa_cons (pv 1) (pa_cons (pv 3) pa_nil))) (pa_cons (pe_rev (pv 5) (pe_un un_neg pe_int)) pa_nil))) pa_nil))))
    (pss_cons (ps_for PassesOwn.never rfl (pi_list (pe_fn GT OT r3 rfl (pa_cons (pv 1) (pa_cons (pv 3) (pa_cons (pe_fn GP OP r3 rfl (pa_cons (pv 1) (pa_cons (pv 3) (pa_cons (pv 5) pa_nil)))) pa_nil))))) (pg_name (i := 8) scLaw.nd rfl (Or.inl rfl))
      (pss_cons (ps_set (i := 9) scLaw.nd rfl (Or.inl rfl) (pe_callB (call_reprD hr.gd hr.u64 hK) rfl B.repr b_repr (pa_cons (pv 8) pa_nil)))
    (pss_cons (ps_for PassesOwn.never rfl (pi_list (pv 7)) (pg_tup rfl (pgs_cons (pg_name (i := 10) scLaw.nd rfl (Or.inl rfl)) (pgs_cons (pg_name (i := 11) scLaw.nd rfl (Or.inl rfl)) pgs_nil)))
      (pss_cons (ps_set (i := 12) scLaw.nd rfl (Or.inl rfl) (pe_fn GIr OIr r7 rfl (pa_cons (pv 10) (pa_cons (pv 11) (pa_cons (pv 8) pa_nil)))))
    (pss_one (ps_if (PW.pt (pw_or (pt_not (pt_val (pe_callB call_isi_bool rfl B.isinstance b_isi (pa_cons (pv 12) (pa_cons (pe_bltn (v := .ty "bool") rfl B.bool b_bool rfl) pa_nil))))) (pw_or1 (pt_cmpR op_ne (pv 12) (pe_fn GI OI r1 rfl (pa_cons (pv 10) (pa_cons (pv 11) (pa_cons (pv 8) pa_nil)))) (nomark _)))))
      pss_never pss_nil))))
    (pss_one (ps_if (pt_cmpR op_ne (pe_callB (call_reprD hr.gd hr.u64 hK) rfl B.repr b_repr (pa_cons (pv 8) pa_nil)) (pv 9) (nomark _))
      pss_never pss_nil)))))
    (pss_cons (ps_set (i := 13) scLaw.nd rfl (Or.inl rfl) (pe_op op_add (pe_op op_pow pe_int pe_int) (pe_fn GD OD r2 rfl (pa_cons (pv 1) (pa_cons (pe_op op_pow pe_int pe_int) pa_nil)))))
    (pss_cons (ps_for PassesOwn.never rfl (pi_list (pe_fn GS OS r3 rfl (pa_cons (pv 1) (pa_cons (pv 3) pa_nil)))) (pg_name (i := 14) scLaw.nd rfl (Or.inl rfl))
      (pss_one (ps_for PassesOwn.never rfl (pi_list (pv 7)) (pg_tup rfl (pgs_cons (pg_name (i := 10) scLaw.nd rfl (Or.inl rfl)) (pgs_cons (pg_name (i := 11) scLaw.nd rfl (Or.inl rfl)) pgs_nil)))
      (pss_one (ps_if (pt_not (pt_val (pe_fn GR OR r8 rfl (pa_cons (pv 10) (pa_cons (pv 11) (pa_cons (pv 14) (pa_cons (pv 13) pa_nil)))))))
      pss_never pss_nil)))))
    (pss_one (ps_if (pt_cmpR op_ne (pe_callB (call_reprD hr.gd hr.u64 hK) rfl B.repr b_repr (pa_cons (pe_lst (pa_cons (pv 3) (pa_cons (pv 5) pa_nil))) pa_nil)) (pv 6) (nomark _))
      pss_never pss_nil))))))))))))
    (pss_one (ps_ret pe_bl)))), ?_⟩
    refine ⟨_, rfl, size1 (show 3 ≤ 1000 by decide), fun t ht => ?_⟩
    have hTape : Tape K (upd H t (.lst [.ref a, .int 0, .int 0])) t a ns := ⟨⟨0, 0, by decide, upd_same⟩, (Same.new ht).seqL hns⟩
    generalize upd H t (.lst [.ref a, .int 0, .int 0]) = H1 at hTape ⊢
    refine ⟨3, rfl, by decide, by decide, for_range (lo := 0) (n := 3) (fun i σ H2 => (∃ v2 v3 v4 v5 v6 v7 v8 v9 v10 v11 v12 v13 v14, σ = [some (.ref a), some (.ref t), v2, v3, v4, v5, v6, v7, v8, v9, v10, v11, v12, v13, v14]) ∧ Tape K H2 t a ns) ⟨⟨none, none, none, none, none, none, none, none, none, none, none, none, none, rfl⟩, hTape⟩ ?_ ?_⟩
    · rintro i σ H2 hi ⟨⟨v2, v3, v4, v5, v6, v7, v8, v9, v10, v11, v12, v13, v14, rfl⟩, T2⟩
      obtain ⟨⟨p2, q2, hp2, ht2⟩, hns2⟩ := id T2
      refine tAnd_any (fun R hR => ⟨_, rfl, _, _, rfl, rfl, _, rfl, hR _⟩) (fun R hR => ⟨_, rfl, t, _, 1, .int p2, rfl, rfl, SqL.of ht2, rfl, _, rfl, a, _, rfl, .inl hns2, _, _, rfl, rfl, _, rfl, hR _⟩) (fun b => ?_)
      refine ite2 (fun _ => ?_) (fun _ => ?_)
      · exact k _
      refine ⟨_, rfl, t, a, ns, rfl, T2, fun n ws bp H3 hb b3 T3 hbk => ?_⟩
      clear ht2 hns2 hp2
      obtain ⟨hn1, hn6, h12, hws⟩ := book_parts hb
      obtain ⟨nn, rfl⟩ : ∃ nn : Nat, n = nn := ⟨n.toNat, by omega⟩
      obtain ⟨ba, bb, ys, e, ha3, hb3, hys3⟩ := den_book hbk
      obtain rfl : bp = ba := by injection e
      have bookOk : ∀ H', But t H3 H' → Den K H' (bookD nn ws) (.ref bp) := fun H' b => by
        obtain ⟨⟨p, q, _, ht⟩, _⟩ := id T3
        exact b.den ht _ _ (noList_book nn ws) hbk
      -- most
      refine ⟨size1 (show 2 ≤ 1000 by decide), fun ml hml => ⟨_, rfl, t, a, ns, 2, rfl, T3.same (Same.new hml), by decide, by decide, fun r4' H4 h40 h41 b4' T4 => ?_⟩⟩
      have hmlt : ml ≠ t := T3.ne hml
      have e4 : H4 ml = some (.lst [.int 4, .int 13]) := b4' ml _ hmlt upd_same
      have b4 : But t H3 H4 := (But.of (Same.new hml)).trans b4'
      obtain ⟨most, hmost, hat⟩ : ∃ most : Int, (most = 4 ∨ most = 13) ∧ atI [V.int 4, V.int 13] r4' = some (.int most) := by
        rcases (show r4' = 0 ∨ r4' = 1 by omega) with rfl | rfl
        · exact ⟨4, .inl rfl, rfl⟩
        · exact ⟨13, .inr rfl, rfl⟩
      refine ⟨ml, _, r4', _, rfl, rfl, SqL.of e4, hat, ?_⟩
      clear hat e4 hml
      -- rooms
      have ha4 := T3.seqT b4 ha3
      refine ⟨_, rfl, bp, _, 0, .int nn, rfl, rfl, ha4, rfl, (nn : Int), rfl, by omega, by omega, comp_range (lo := 0) (n := ((nn : Int)).toNat) (fun σ => ∃ v, σ = [v, some (.int most), some (.ref t)]) (fun i ys H5 => ∃ l : List Int, ys = l.map V.int ∧ l.length = i ∧ (∀ r ∈ l, 0 ≤ r ∧ r ≤ 12) ∧ But t H4 H5 ∧ Tape K H5 t a ns) (size1 (by omega)) ⟨none, rfl⟩
        ⟨[], rfl, rfl, fun _ h => (List.not_mem_nil h).elim, But.refl t H4, T4⟩ ?_ ?_ ?_⟩
      · rintro i ys H5 ⟨l, rfl, h1, _⟩
        rw [List.length_map]; omega
      · rintro i ys σ H5 hi ⟨v, rfl⟩ ⟨l, rfl, h1, h2, b5, T5⟩ hz
        refine nameAll_go ?_
        refine ⟨_, rfl, _, rfl, t, a, ns, most, rfl, T5, by omega, by omega, fun r6 H6 h60 h61 b6 T6 => ⟨hz, ⟨_, rfl⟩, l ++ [r6], by rw [List.map_append]; rfl, by rw [List.length_append, h1]; rfl, fun r hr => ?_, b5.trans b6, T6⟩⟩
        rcases List.mem_append.mp hr with hr | hr
        · exact h2 r hr
        · rw [List.mem_singleton.mp hr]; omega
      · rintro ys H5 ⟨rs, rfl, h1, h2, b5, T5⟩ p hp
        have hro : RoomsOk nn rs := ⟨h1, h2⟩
        refine ⟨p, _, rfl, .inl ⟨SqL.of upd_same, fun rq hrq => ?_⟩⟩
        have s6 := (Same.new (o := .lst (rs.map V.int)) hp).trans (Same.new (o := .tup (rs.map V.int)) hrq)
        have hrq6 : SqT K (upd (upd H5 p (.lst (rs.map V.int))) rq (.tup (rs.map V.int))) rq (rs.map V.int) := SqT.of upd_same
        generalize upd (upd H5 p (.lst (rs.map V.int))) rq (.tup (rs.map V.int)) = H6 at s6 hrq6 ⊢
        have b6 := (b4.trans b5).trans (But.of s6)
        have T6 := T5.same s6
        clear b4' T4 ha4 b5 T5 s6 hrq hp b4
        have lvk := lv_kept hb hro
        have hsz : (keptD nn ws rs).shown.length ≤ sizeLine := Nat.le_trans lvk.2.2 (by rw [sizeLine_eq]; decide)
        have hdp : (keptD nn ws rs).depth ≤ 60 := Nat.le_trans lvk.2.1 (by decide)
        have kept : ∀ H' lp, But t H3 H' → SqT K H' rq (rs.map V.int) → H' lp = none → Den K (upd H' lp (.lst [.ref bp, .ref rq])) (keptD nn ws rs) (.ref lp) := fun H' lp b hq hlp => by
          have s' := Same.new (o := .lst [.ref bp, .ref rq]) hlp
          exact den_list.mpr ⟨lp, _, rfl, SqL.of upd_same, denAll_cons.mpr ⟨_, _, rfl, s'.den _ _ (bookOk H' b), denAll_cons.mpr ⟨_, _, rfl, den_tints.mpr ⟨rq, rfl, s'.seqT hq⟩, denAll_nil.mpr rfl⟩⟩⟩
        refine ⟨_, rfl, _, rfl, sz2 _ _, fun lp hlp => ⟨keptD nn ws rs, .ref lp, rfl, kept H6 lp b6 hrq6 hlp, lvk.1, hdp, hsz, ?_⟩⟩
        have s7 := Same.new (o := .lst [.ref bp, .ref rq]) hlp
        have b7 := b6.trans (But.of s7)
        have T7 := T6.same s7
        have hrq7 := s7.seqT hrq6
        generalize upd H6 lp (.lst [.ref bp, .ref rq]) = H7 at s7 b7 T7 hrq7 ⊢
        clear b6 T6 hrq6 hlp s7
        -- asks
        refine ⟨_, rfl, _, rfl, sz2 _ _, fun p1 hp1 => ?_⟩
        have s8 := Same.new (o := .tup [.ref bp, .ref rq]) hp1
        have e8 : SqT K (upd H7 p1 (.tup [.ref bp, .ref rq])) p1 [.ref bp, .ref rq] := SqT.of upd_same
        have b8 := b7.trans (But.of s8)
        have T8 := T7.same s8
        have hrq8 := s8.seqT hrq7
        generalize upd H7 p1 (.tup [.ref bp, .ref rq]) = H8 at s8 e8 b8 T8 hrq8 ⊢
        clear b7 T7 hrq7 hp1 s8
        refine ⟨_, rfl, _, rfl, t, a, ns, .ref bp, nn, ws, rfl, T8, bookOk _ b8, hb, fun op ws' H9 b9' T9 hop hb' => ?_⟩
        have e9 := T8.seqT b9' e8
        have hrq9 := T8.seqT b9' hrq8
        have b9 := b8.trans b9'
        refine ⟨_, rfl, _, rfl, rfl, rq, _, rfl, hrq9, fun rp hrp => ⟨sz2 _ _, fun pp hpp => ⟨sz2 _ _, fun ap hap => ?_⟩⟩⟩
        have s10 := Same.new (o := .tup (rs.map V.int).reverse) hrp
        have s11 := Same.new (o := .tup [.ref op, .ref rp]) hpp
        have s12 := Same.new (o := .lst [.ref p1, .ref pp]) hap
        have sf := (s10.trans s11).trans s12
        have hapt : ap ≠ t := (T9.same (s10.trans s11)).ne hap
        have hro' : RoomsOk nn rs.reverse := ⟨by rw [List.length_reverse]; exact hro.1, fun r hr => hro.2 r (List.mem_reverse.mp hr)⟩
        have hasks : AsksOk K (upd (upd (upd H9 rp (.tup (rs.map V.int).reverse)) pp (.tup [.ref op, .ref rp])) ap (.lst [.ref p1, .ref pp])) ap nn := by
          refine ⟨_, upd_same, fun y hy => ?_⟩
          rcases List.mem_cons.mp hy with rfl | hy
          · exact ⟨p1, .ref bp, rq, ws, rs, rfl, sf.seqT e9, sf.den _ _ (bookOk _ b9), hb, sf.seqT hrq9, hro⟩
          · rw [List.mem_singleton.mp hy]
            exact ⟨pp, .ref op, rp, ws', rs.reverse, rfl, s12.seqT (SqT.of upd_same), sf.den _ _ hop, hb', by rw [List.map_reverse]; exact (s11.trans s12).seqT (SqT.of upd_same), hro'⟩
        have b12 := b9.trans (But.of sf)
        have T12 := T9.same sf
        have hrq12 := sf.seqT hrq9
        generalize upd (upd (upd H9 rp (.tup (rs.map V.int).reverse)) pp (.tup [.ref op, .ref rp])) ap (.lst [.ref p1, .ref pp]) = H12 at hasks b12 T12 hrq12 ⊢
        clear s10 s11 s12 sf hrp hpp hap e9 hrq9 b9 T9 b9' hop hb' e8 b8 T8 hrq8 hro'
        -- deals
        refine ⟨_, rfl, _, rfl, _, rfl, _, rfl, _, rfl, t, a, ns, .ref bp, rq, nn, ws, rs, rfl, T12, bookOk _ b12, hb, hrq12, hro, fun dp os H13 b13' T13 hdp' hdo => ?_⟩
        have b13 := b12.trans b13'
        have hasks13 := hasks.but T12 hapt b13'
        have hrq13 := T12.seqT b13' hrq12
        refine ⟨t, a, ns, .ref bp, dp, nn, ws, os, rfl, T13, bookOk _ b13, hb, hdp', hdo, fun fl xs H14 b14' T14 hfl hdl => ?_⟩
        have b14 := b13.trans b14'
        have hasks14 := hasks13.but T13 hapt b14'
        have hrq14 := T13.seqT b14' hrq13
        clear hasks hasks13 hrq12 hrq13 b12 b13 T12 T13 b13' b14' hdp' hdo
        obtain ⟨as, has, hasx⟩ := id hasks14
        refine ⟨fl, rfl, ⟨_, SqL.of hfl⟩, for_list (K := K) (a := fl) (xs := xs) (fun j σ H15 => (∃ v8 v9 v10 v11 v12 v13 v14, σ = [some (.ref a), some (.ref t), some (.int (0 + (i : Int))), some (.ref bp), some (.int most), some (.ref rq), some (.str (keptD nn ws rs).shown), some (.ref ap), v8, v9, v10, v11, v12, v13, v14]) ∧ Same H14 H15)
          ⟨⟨_, _, _, _, _, _, _, rfl⟩, Same.refl _⟩ (fun j σ H15 _ ⟨_, s⟩ => s.seqL (SqL.of hfl)) ?_ ?_⟩
        · rintro j y σ H15 hy ⟨⟨v8, v9, v10, v11, v12, v13, v14, rfl⟩, s15⟩
          obtain ⟨d, hden, hlv⟩ := hdl y (List.mem_of_getElem? hy)
          have hden14 : Den K H14 d y := Vw.sub.den _ _ hden
          have hsd : d.shown.length ≤ sizeLine := Nat.le_trans hlv.2.2 (by rw [sizeLine_eq]; decide)
          have hdd : d.depth ≤ 60 := Nat.le_trans hlv.2.1 (by decide)
          refine ⟨_, rfl, d, y, rfl, s15.den _ _ hden14, hlv.1, hdd, hsd, ?_⟩
          refine ⟨_, rfl, ap, rfl, ⟨_, s15.seqL (SqL.of has)⟩, for_list (K := K) (a := ap) (xs := as) (fun j σ H16 => (∃ v10 v11 v12 v13 v14, σ = [some (.ref a), some (.ref t), some (.int (0 + (i : Int))), some (.ref bp), some (.int most), some (.ref rq), some (.str (keptD nn ws rs).shown), some (.ref ap), some y, some (.str d.shown), v10, v11, v12, v13, v14]) ∧ Same H14 H16)
            ⟨⟨_, _, _, _, _, rfl⟩, s15⟩ (fun j σ H16 _ ⟨_, s⟩ => s.seqL (SqL.of has)) ?_ ?_⟩
          · rintro j z σ H16 hz ⟨⟨v10, v11, v12, v13, v14, rfl⟩, s16⟩
            obtain ⟨r, x, q, ws2, rs2, rfl, z2, z3, z4, z5, z6⟩ := hasx z (List.mem_of_getElem? hz)
            refine ⟨r, _, rfl, s16.seqT z2, rfl, _, _, rfl, _, _, rfl, rfl, ?_⟩
            refine ⟨_, rfl, _, rfl, _, rfl, x, q, y, nn, ws2, rs2, d, rfl, s16.den _ _ z3, z4, s16.seqT z5, z6, s16.den _ _ hden14, fun H17 s17 => ?_⟩
            have s14 := s16.trans s17
            refine ⟨_, rfl, _, _, rfl, (den_bool.mpr rfl : Den K H17 (.bool (inRoomsB ws2 rs2 d)) (.bl (inRoomsB ws2 rs2 d))).kd, _, rfl, ?_⟩
            refine iteF ?_
            refine ⟨_, rfl, _, rfl, _, rfl, _, rfl, x, q, y, nn, ws2, rs2, d, rfl, s14.den _ _ z3, z4, s14.seqT z5, z6, s14.den _ _ hden14, fun H18 s18 => ⟨rfl, _, rfl, ?_⟩⟩
            rw [op_neSelf]
            refine iteF ?_
            exact ⟨⟨_, _, _, _, _, rfl⟩, s14.trans s18⟩
          · rintro σ H16 ⟨⟨v10, v11, v12, v13, v14, rfl⟩, s16⟩
            refine ⟨_, rfl, d, y, rfl, s16.den _ _ hden14, hlv.1, hdd, hsd, _, rfl, rfl, _, rfl, ?_⟩
            rw [op_neSelf]
            refine iteF ?_
            exact ⟨⟨_, _, _, _, _, _, _, rfl⟩, s16⟩
        · rintro σ H15 ⟨⟨v8, v9, v10, v11, v12, v13, v14, rfl⟩, s15⟩
          have b15 := b14.trans (But.of s15)
          have T15 := T14.same s15
          have hasks15 := hasks14.same s15
          have hrq15 := s15.seqT hrq14
          clear has hasx hasks14 hdl hfl hrq14 T14 b14 s15
          -- far
          refine ⟨_, _, rfl, rfl, ⟨by decide, by decide, by decide⟩, _, rfl, _, _, rfl, rfl, ⟨by decide, by decide, by decide⟩, t, a, ns, 10000000000000000000, rfl, T15, by decide, by decide, fun r16 H16 h160 h161 b16' T16 => ⟨_, _, rfl, rfl, ?_⟩⟩
          have b16 := b15.trans b16'
          have hasks16 := hasks15.but T15 hapt b16'
          have hrq16 := T15.seqT b16' hrq15
          refine ⟨_, rfl, _, rfl, t, a, ns, .ref bp, nn, ws, rfl, T16, bookOk _ b16, hb, fun sp xs H17 b17' T17 hsp hsets => ?_⟩
          have b17 := b16.trans b17'
          have hasks17 := hasks16.but T16 hapt b17'
          have hrq17 := T16.seqT b17' hrq16
          clear hasks15 hasks16 hrq15 hrq16 b15 b16 T15 T16 b16' b17'
          obtain ⟨as, has, hasx⟩ := id hasks17
          have hfar : 1000 ≤ (10 : Int) ^ (19 : Int).toNat + r16 := by
            have : (10 : Int) ^ (19 : Int).toNat = 10000000000000000000 := by decide
            omega
          refine ⟨sp, rfl, ⟨_, SqL.of hsp⟩, for_list (K := K) (a := sp) (xs := xs) (fun j σ H18 => (∃ v8 v9 v10 v11 v12 v14, σ = [some (.ref a), some (.ref t), some (.int (0 + (i : Int))), some (.ref bp), some (.int most), some (.ref rq), some (.str (keptD nn ws rs).shown), some (.ref ap), v8, v9, v10, v11, v12, some (.int ((10 : Int) ^ (19 : Int).toNat + r16)), v14]) ∧ Same H17 H18)
            ⟨⟨_, _, _, _, _, _, rfl⟩, Same.refl _⟩ (fun j σ H18 _ ⟨_, s⟩ => s.seqL (SqL.of hsp)) ?_ ?_⟩
          · rintro j y σ H18 hy ⟨⟨v8, v9, v10, v11, v12, v14, rfl⟩, s18⟩
            obtain ⟨sq, ls, rfl, hsq, hls⟩ := hsets y (List.mem_of_getElem? hy)
            refine ⟨_, rfl, ap, rfl, ⟨_, s18.seqL (SqL.of has)⟩, for_list (K := K) (a := ap) (xs := as) (fun j σ H19 => (∃ v8 v9 v10 v11 v12, σ = [some (.ref a), some (.ref t), some (.int (0 + (i : Int))), some (.ref bp), some (.int most), some (.ref rq), some (.str (keptD nn ws rs).shown), some (.ref ap), v8, v9, v10, v11, v12, some (.int ((10 : Int) ^ (19 : Int).toNat + r16)), some (.ref sq)]) ∧ Same H17 H19)
              ⟨⟨_, _, _, _, _, rfl⟩, s18⟩ (fun j σ H19 _ ⟨_, s⟩ => s.seqL (SqL.of has)) ?_ ?_⟩
            · rintro j z σ H19 hz ⟨⟨v8, v9, v10, v11, v12, rfl⟩, s19⟩
              obtain ⟨r, x, q, ws2, rs2, rfl, z2, z3, z4, z5, z6⟩ := hasx z (List.mem_of_getElem? hz)
              refine ⟨r, _, rfl, s19.seqT z2, rfl, _, _, rfl, _, _, rfl, rfl, ?_⟩
              refine ⟨_, rfl, _, rfl, _, rfl, _, rfl, x, q, sq, nn, ws2, rs2, ls, _, rfl, s19.den _ _ z3, z4, s19.seqT z5, z6, s19.seqT hsq, hls, hfar, fun H20 s20 => ⟨_, rfl, ?_⟩⟩
              refine iteF ?_
              exact ⟨⟨_, _, _, _, _, rfl⟩, s19.trans s20⟩
            · rintro σ H19 ⟨⟨v8, v9, v10, v11, v12, rfl⟩, s19⟩
              exact ⟨⟨_, _, _, _, _, _, rfl⟩, s19⟩
          · rintro σ H18 ⟨⟨v8, v9, v10, v11, v12, v14, rfl⟩, s18⟩
            have b18 := b17.trans (But.of s18)
            refine ⟨_, rfl, _, rfl, sz2 _ _, fun lp hlp => ⟨keptD nn ws rs, .ref lp, rfl, kept H18 lp b18 (s18.seqT hrq17) hlp, lvk.1, hdp, hsz, _, rfl, rfl, _, rfl, ?_⟩⟩
            rw [op_neSelf]
            refine iteF ?_
            exact ⟨⟨_, _, _, _, _, _, _, _, _, _, _, _, _, rfl⟩, T17.same (s18.trans (Same.new hlp))⟩
    · rintro σ H2 ⟨⟨v2, v3, v4, v5, v6, v7, v8, v9, v10, v11, v12, v13, v14, rfl⟩, T2⟩
      exact k _
end
end Ab
set_option Elab.async false
set_option linter.all false
set_option maxRecDepth 100000
namespace Ab
open PySem L2 PyProof.Rows
theorem fn_mk {K : PySem.W.Frag} {h : Heap} {mg : Str → Option Value} (X : K.In h) (G : h.Ns mainGlobals mg) {x : Str} {st : Stmt} {ps : List Str} {f : Addr} {oc : Value} {od an : Option Addr} {osl : Array (Option Value)} {kV doc pm cdv ct : Value}
    (hb : ∀ (kV doc pm : Value) (an : Option Addr) (cdv ct : Value) (us : List Value), us.length = ps.length → bindArgs (PySem.W.fnOf x x (defArgs st) (defBody st) (defScope st) .none kV doc pm an cdv ct) ⟨us, []⟩ = pure (ps.zip us))
    (a : PySem.W.nsIn K mainGlobals x = some (some (.ref f))) (l : K.lookup f = some ⟨oc, od, .func (PySem.W.fnOf x x (defArgs st) (defBody st) (defScope st) .none kV doc pm an cdv ct), osl⟩) (c : PySem.W.codeIn K cdv x = true) (k : PySem.W.keepIn K (.ref f) = true) :
    ∃ f fd, Fn K mg x st ps f fd := by
  have F := fun_mk (st := st) l c k
  exact ⟨f, _, F, PySem.W.mg_of X G a, k, F.binds hb⟩
theorem bl_mk {K : PySem.W.Frag} {h : Heap} {mg : Str → Option Value} (X : K.In h) (G : h.Ns mainGlobals mg) {t6 t12 tm : Tok}
    (z0 : PySem.W.nsIn K mainGlobals "isinstance" = some none)
    (z1 : PySem.W.nsIn K mainGlobals "int" = some none)
    (z2 : PySem.W.nsIn K mainGlobals "bool" = some none)
    (z3 : PySem.W.nsIn K mainGlobals "tuple" = some none)
    (z4 : PySem.W.nsIn K mainGlobals "list" = some none)
    (z5 : PySem.W.nsIn K mainGlobals "len" = some none)
    (z6 : PySem.W.nsIn K mainGlobals "all" = some none)
    (z7 : PySem.W.nsIn K mainGlobals "zip" = some none)
    (z8 : PySem.W.nsIn K mainGlobals "range" = some none)
    (z9 : PySem.W.nsIn K mainGlobals "sorted" = some none)
    (z10 : PySem.W.nsIn K mainGlobals "set" = some none)
    (z11 : PySem.W.nsIn K mainGlobals "sum" = some none)
    (z12 : PySem.W.nsIn K mainGlobals "repr" = some none)
    (z13 : PySem.W.nsIn K mainGlobals "enumerate" = some none)
    (z14 : PySem.W.nsIn K mainGlobals "min" = some none)
    (z15 : PySem.W.nsIn K mainGlobals "any" = some none)
    (zA : PySem.W.nsIn K mainGlobals "MOST_HANDS" = some (some (.int 6 t6))) (zB : PySem.W.nsIn K mainGlobals "MOST_WORKS" = some (some (.int 12 t12))) (zC : PySem.W.nsIn K mainGlobals "MOST_ROOM" = some (some (.int 12 tm))) : Bl mg :=
  ⟨PySem.W.mg_none_of X G z0, PySem.W.mg_none_of X G z1, PySem.W.mg_none_of X G z2, PySem.W.mg_none_of X G z3, PySem.W.mg_none_of X G z4, PySem.W.mg_none_of X G z5, PySem.W.mg_none_of X G z6, PySem.W.mg_none_of X G z7, PySem.W.mg_none_of X G z8, PySem.W.mg_none_of X G z9, PySem.W.mg_none_of X G z10, PySem.W.mg_none_of X G z11, PySem.W.mg_none_of X G z12, PySem.W.mg_none_of X G z13, PySem.W.mg_none_of X G z14, PySem.W.mg_none_of X G z15, ⟨_, PySem.W.mg_of X G zA⟩, ⟨_, PySem.W.mg_of X G zB⟩, ⟨_, PySem.W.mg_of X G zC⟩⟩
theorem law_all {l : PySem.W.OpenLaw} {w : World} {K : PySem.W.Frag} {mg : Str → Option Value} {fa : Addr} (hfa : mg "law" = some (.ref fa)) (B : Bl mg) (hK1 : K.lookup sysModules = none)
    (hW : ∃ f fd, Fn K mg "is_whole" sWhole ["thing"] f fd)
    (hH : ∃ f fd, Fn K mg "are_hands" sHands ["thing"] f fd)
    (hKw : ∃ f fd, Fn K mg "is_work" sWorkP ["hands", "thing"] f fd)
    (hBP : ∃ f fd, Fn K mg "is_book" sBookP ["thing"] f fd)
    (hNB : ∃ f fd, Fn K mg "need_book" sNeedB ["book"] f fd)
    (hS : ∃ f fd, Fn K mg "_law_b_stirred" sStir ["cell", "at"] f fd)
    (hD : ∃ f fd, Fn K mg "_law_b_digit" sDigit ["tape", "many"] f fd)
    (hWK : ∃ f fd, Fn K mg "_law_b_work" sWork ["tape", "hands", "kind"] f fd)
    (hBK : ∃ f fd, Fn K mg "_law_b_book" sBook ["tape", "hands", "works"] f fd)
    (hWI : ∃ f fd, Fn K mg "is_within" sWithin ["able", "some"] f fd)
    (hAR : ∃ f fd, Fn K mg "are_rooms" sRooms ["book", "thing"] f fd)
    (hNR : ∃ f fd, Fn K mg "need_rooms" sNeedR ["book", "rooms"] f fd)
    (hIR : ∃ f fd, Fn K mg "is_in_rooms" sInRooms ["book", "rooms", "thing"] f fd)
    (hDB : ∃ f fd, Fn K mg "do_bar" sDoBar ["book", "rooms", "some", "number"] f fd)
    (hDE : ∃ f fd, Fn K mg "_law_b_is_dealt" sDealt ["book", "rooms", "deal"] f fd)
    (hPU : ∃ f fd, Fn K mg "_law_b_put" sPut ["tape", "book", "rooms"] f fd)
    (hBT : ∃ f fd, Fn K mg "_law_b_bent" sBent ["tape", "book", "deal"] f fd)
    (hSE : ∃ f fd, Fn K mg "_law_b_sets" sSets ["tape", "book"] f fd)
    (hMO : ∃ f fd, Fn K mg "_law_b_more" sMore ["book", "rooms", "some"] f fd)
    (hBR : ∃ f fd, Fn K mg "_law_b_bar_right" sBarR ["book", "rooms", "some", "far"] f fd)
    (hOT : ∃ f fd, Fn K mg "_law_b_other" sOther ["tape", "book"] f fd)
    (hLW : ∃ f fd, Fn K mg "law" sLaw ["script"] f fd)
    : ∃ fd : FuncData, (∀ (s : Shared) (v : Value), BindsTo s fd ⟨[v], []⟩ [("script", v)]) ∧ ∀ base : Heap, K.In base → base.Ns mainGlobals mg → FnOk l.prog w K mg base CX0 10 fa fd ["script"] (spLaw K) := by
  obtain ⟨fW, dW, W⟩ := hW
  obtain ⟨fH, dH, H⟩ := hH
  obtain ⟨fKw, dKw, Kw⟩ := hKw
  obtain ⟨fBP, dBP, BP⟩ := hBP
  obtain ⟨fNB, dNB, NB⟩ := hNB
  obtain ⟨fS, dS, S⟩ := hS
  obtain ⟨fD, dD, D⟩ := hD
  obtain ⟨fWK, dWK, WK⟩ := hWK
  obtain ⟨fBK, dBK, BK⟩ := hBK
  obtain ⟨fWI, dWI, WI⟩ := hWI
  obtain ⟨fAR, dAR, AR⟩ := hAR
  obtain ⟨fNR, dNR, NR⟩ := hNR
  obtain ⟨fIR, dIR, IR⟩ := hIR
  obtain ⟨fDB, dDB, DB⟩ := hDB
  obtain ⟨fDE, dDE, DE⟩ := hDE
  obtain ⟨fPU, dPU, PU⟩ := hPU
  obtain ⟨fBT, dBT, BT⟩ := hBT
  obtain ⟨fSE, dSE, SE⟩ := hSE
  obtain ⟨fMO, dMO, MO⟩ := hMO
  obtain ⟨fBR, dBR, BR⟩ := hBR
  obtain ⟨fOT, dOT, OT⟩ := hOT
  obtain ⟨fLW, dLW, LW⟩ := hLW
  have e := hfa.symm.trans LW.mgx
  cases e
  refine ⟨dLW, fun s v => ?_, fun base _ _ => ?_⟩
  · obtain ⟨oc, od, kV, doc, pm, an, cdv, ct, osl, rfl, lk, hcd⟩ := LW.fn.ex
    exact .of_eq rfl
  · have R : Pr K mg fW fH fKw fBP fNB dW dH dKw dBP dNB := ⟨W, H, Kw, BP, NB⟩
    have OD : FnOk l.prog w K mg base CX0 2 fD dD ["tape", "many"] (spDigit K) := ok_digit D B S
    have OW' : FnOk l.prog w K mg base CX0 3 fWK dWK ["tape", "hands", "kind"] (spWork K) := ok_work WK B D OD
    have ON : FnOk l.prog w K mg base CX0 6 fNR dNR ["book", "rooms"] (spNeedR K) := ok_needR NR B R AR
    exact ok_law hK1 LW B BK D OT PU BT SE BR DE IR (ok_book BK B D OD WK OW') OD (ok_other OT B D OD) (ok_put PU B D OD) (ok_bent BT B D OD) (ok_sets SE B D OD) (ok_barR BR B MO DB (ok_doBar DB B R NR ON WI)) (ok_dealt DE B) (ok_inR IR B R NR ON)
theorem walk {l : PySem.W.OpenLaw} {q : Program} {loose : List Str} {XP : (Str → Option Value) → Heap → Prop} {YP : World → Heap → Prop} {d : DefRec} {K : Params → PySem.W.Frag} (hn : l.most = some 63) (hdf : d.params.defaults = []) (hq : importsNone q = true)
    (hY : ∀ (w : World) (h : Heap), YP w h → (K w.params).In h)
    (F : ∀ (w : World) (mg : Str → Option Value) (fa : Addr) (h : Heap), (K w.params).In h → h.Ns mainGlobals mg → mg d.name = some (.ref fa) →
      ∃ fd : FuncData, (∀ (s : Shared) (u : Value), BindsTo s fd ⟨[u], []⟩ [("script", u)]) ∧ ∀ base : Heap, (K w.params).In base → base.Ns mainGlobals mg → FnOk l.prog w (K w.params) mg base CX0 10 fa fd ["script"] (spLaw (K w.params))) :
    PySem.W.WalkO q loose XP YP l.row.toRowW d [] (fun f vs => PySem.call f vs) :=
  L2.walk_of (n := 63) (k := 10) (x := "script") (CX := fun _ => CX0) (sp := fun w => spLaw (K w.params)) hn (by decide) hdf ⟨rfl, by decide, by decide, rfl⟩ hq hY F (fun _ _ a ns _ _ hS => ⟨a, ns, rfl, hS, fun _ => rfl⟩) fun _ _ _ _ _ z => z
end Ab
open PySem PySem.W PyProof.Rows
set_option maxRecDepth 100000 in
set_option maxHeartbeats 0 in
theorem PySem.Challenge.cw_ablehands_k17_rooms_and_bars_looked_at_holds : PySem.Challenge.rw_ablehands_k17_rooms_and_bars_looked_at.Holds := by
  w_on; o_law; k_head; (case hw => w_witness2)
  k_fill
  refine Ab.walk (l := PySem.Challenge.rw_ablehands_k17_rooms_and_bars_looked_at) rfl rfl (by decide +kernel) (fun w h Y => PySem.W.kIn_of Y) ?F
  case F =>
    intro w mg fa h KX G hmg
    refine' Ab.law_all hmg ?B ?K1 ?hW ?hH ?hKw ?hBP ?hNB ?hS ?hD ?hWK ?hBK ?hWI ?hAR ?hNR ?hIR ?hDB ?hDE ?hPU ?hBT ?hSE ?hMO ?hBR ?hOT ?hLW
    case K1 => first | k_is | rfl | decide +kernel
    case B =>
      refine' Ab.bl_mk KX G ?z0 ?z1 ?z2 ?z3 ?z4 ?z5 ?z6 ?z7 ?z8 ?z9 ?z10 ?z11 ?z12 ?z13 ?z14 ?z15 ?zA ?zB ?zC
      (case z0 => k_is)
      (case z1 => k_is)
      (case z2 => k_is)
      (case z3 => k_is)
      (case z4 => k_is)
      (case z5 => k_is)
      (case z6 => k_is)
      (case z7 => k_is)
      (case z8 => k_is)
      (case z9 => k_is)
      (case z10 => k_is)
      (case z11 => k_is)
      (case z12 => k_is)
      (case z13 => k_is)
      (case z14 => k_is)
      (case z15 => k_is)
      (case zA => k_is)
      (case zB => k_is)
      (case zC => k_is)
    case hW =>
      refine' Ab.fn_mk KX G (fun _ _ _ _ _ _ us hl => match us, hl with | [_], _ => rfl) ?a ?l ?c ?k
      (case a => k_is); (case l => k_is); (case c => k_is); (case k => k_is)
    case hH =>
      refine' Ab.fn_mk KX G (fun _ _ _ _ _ _ us hl => match us, hl with | [_], _ => rfl) ?a ?l ?c ?k
      (case a => k_is); (case l => k_is); (case c => k_is); (case k => k_is)
    case hKw =>
      refine' Ab.fn_mk KX G (fun _ _ _ _ _ _ us hl => match us, hl with | [_, _], _ => rfl) ?a ?l ?c ?k
      (case a => k_is); (case l => k_is); (case c => k_is); (case k => k_is)
    case hBP =>
      refine' Ab.fn_mk KX G (fun _ _ _ _ _ _ us hl => match us, hl with | [_], _ => rfl) ?a ?l ?c ?k
      (case a => k_is); (case l => k_is); (case c => k_is); (case k => k_is)
    case hNB =>
      refine' Ab.fn_mk KX G (fun _ _ _ _ _ _ us hl => match us, hl with | [_], _ => rfl) ?a ?l ?c ?k
      (case a => k_is); (case l => k_is); (case c => k_is); (case k => k_is)
    case hS =>
      refine' Ab.fn_mk KX G (fun _ _ _ _ _ _ us hl => match us, hl with | [_, _], _ => rfl) ?a ?l ?c ?k
      (case a => k_is); (case l => k_is); (case c => k_is); (case k => k_is)
    case hD =>
      refine' Ab.fn_mk KX G (fun _ _ _ _ _ _ us hl => match us, hl with | [_, _], _ => rfl) ?a ?l ?c ?k
      (case a => k_is); (case l => k_is); (case c => k_is); (case k => k_is)
    case hWK =>
      refine' Ab.fn_mk KX G (fun _ _ _ _ _ _ us hl => match us, hl with | [_, _, _], _ => rfl) ?a ?l ?c ?k
      (case a => k_is); (case l => k_is); (case c => k_is); (case k => k_is)
    case hBK =>
      refine' Ab.fn_mk KX G (fun _ _ _ _ _ _ us hl => match us, hl with | [_, _, _], _ => rfl) ?a ?l ?c ?k
      (case a => k_is); (case l => k_is); (case c => k_is); (case k => k_is)
    case hWI =>
      refine' Ab.fn_mk KX G (fun _ _ _ _ _ _ us hl => match us, hl with | [_, _], _ => rfl) ?a ?l ?c ?k
      (case a => k_is); (case l => k_is); (case c => k_is); (case k => k_is)
    case hAR =>
      refine' Ab.fn_mk KX G (fun _ _ _ _ _ _ us hl => match us, hl with | [_, _], _ => rfl) ?a ?l ?c ?k
      (case a => k_is); (case l => k_is); (case c => k_is); (case k => k_is)
    case hNR =>
      refine' Ab.fn_mk KX G (fun _ _ _ _ _ _ us hl => match us, hl with | [_, _], _ => rfl) ?a ?l ?c ?k
      (case a => k_is); (case l => k_is); (case c => k_is); (case k => k_is)
    case hIR =>
      refine' Ab.fn_mk KX G (fun _ _ _ _ _ _ us hl => match us, hl with | [_, _, _], _ => rfl) ?a ?l ?c ?k
      (case a => k_is); (case l => k_is); (case c => k_is); (case k => k_is)
    case hDB =>
      refine' Ab.fn_mk KX G (fun _ _ _ _ _ _ us hl => match us, hl with | [_, _, _, _], _ => rfl) ?a ?l ?c ?k
      (case a => k_is); (case l => k_is); (case c => k_is); (case k => k_is)
    case hDE =>
      refine' Ab.fn_mk KX G (fun _ _ _ _ _ _ us hl => match us, hl with | [_, _, _], _ => rfl) ?a ?l ?c ?k
      (case a => k_is); (case l => k_is); (case c => k_is); (case k => k_is)
    case hPU =>
      refine' Ab.fn_mk KX G (fun _ _ _ _ _ _ us hl => match us, hl with | [_, _, _], _ => rfl) ?a ?l ?c ?k
      (case a => k_is); (case l => k_is); (case c => k_is); (case k => k_is)
    case hBT =>
      refine' Ab.fn_mk KX G (fun _ _ _ _ _ _ us hl => match us, hl with | [_, _, _], _ => rfl) ?a ?l ?c ?k
      (case a => k_is); (case l => k_is); (case c => k_is); (case k => k_is)
    case hSE =>
      refine' Ab.fn_mk KX G (fun _ _ _ _ _ _ us hl => match us, hl with | [_, _], _ => rfl) ?a ?l ?c ?k
      (case a => k_is); (case l => k_is); (case c => k_is); (case k => k_is)
    case hMO =>
      refine' Ab.fn_mk KX G (fun _ _ _ _ _ _ us hl => match us, hl with | [_, _, _], _ => rfl) ?a ?l ?c ?k
      (case a => k_is); (case l => k_is); (case c => k_is); (case k => k_is)
    case hBR =>
      refine' Ab.fn_mk KX G (fun _ _ _ _ _ _ us hl => match us, hl with | [_, _, _, _], _ => rfl) ?a ?l ?c ?k
      (case a => k_is); (case l => k_is); (case c => k_is); (case k => k_is)
    case hOT =>
      refine' Ab.fn_mk KX G (fun _ _ _ _ _ _ us hl => match us, hl with | [_, _], _ => rfl) ?a ?l ?c ?k
      (case a => k_is); (case l => k_is); (case c => k_is); (case k => k_is)
    case hLW =>
      refine' Ab.fn_mk KX G (fun _ _ _ _ _ _ us hl => match us, hl with | [_], _ => rfl) ?a ?l ?c ?k
      (case a => k_is); (case l => k_is); (case c => k_is); (case k => k_is)

